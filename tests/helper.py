"""What several test files need: refusals by their very class."""

from volumehall import errors

KINDS = ("BadSizes", "NoDisk", "NoBlock", "BadNumber", "Stopped", "BadVolume", "NoVolume", "Full", "Lost", "BadText")

FAR = 10 ** 19


def told(call, *args):
    """What a call tells, or the name of the class that refuses it."""
    try:
        return ("told", call(*args))
    except errors.VolumeError as e:
        return ("refused", e.__class__.__name__)


def assert_refused(case, kind, call, *args):
    """The call is refused by the class of this name, and under none of the others."""
    with case.assertRaises(ValueError, msg=f"{call} {args}") as caught:
        call(*args)
    case.assertIs(getattr(errors, kind), caught.exception.__class__, msg=f"{call} {args}")
    case.assertIsInstance(caught.exception, errors.VolumeError)
    for other in KINDS:
        if other != kind:
            case.assertNotIsInstance(caught.exception, getattr(errors, other))

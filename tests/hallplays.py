"""Random steps, and a hall with its bench that does steps and can be looked into."""

from helper import FAR
from volumehall.bench import Bench
from volumehall.errors import VolumeError
from volumehall.hall import Hall

WRONG = (10, 37, 4, 6, 13, 1000, FAR, -1, -FAR, True, False)
# How many numbers stand behind each word, each below which one it is mostly told.
BELOW = {
    "make": (4, 7, 4), "grow": (4, 5), "drop": (4,), "mirror": (4, 4), "leave": (6,), "stay": (6,), "read": (4, 24),
    "write": (4, 24, 1000), "step": (), "room": (4,), "lacks": (), "lost": (), "volumes": (), "places": (4,),
    "copying": (), "lose": (6,), "bring": (6, 15),
}
BENCH_WORDS = ("lose", "bring", "arm")
WORDS = (
    ("make",) * 6 + ("grow",) * 3 + ("drop", "mirror", "mirror", "leave", "leave", "stay", "lose") + ("bring",) * 3
    + ("read",) * 5 + ("write",) * 12 + ("step",) * 20 + ("room", "lacks", "lost", "volumes", "places", "copying") * 2
)


class Driver:
    """A hall with its bench."""

    def __init__(self, sizes):
        self.bench = Bench(list(sizes))
        self.hall = Hall(self.bench)

    def do(self, step):
        word, *numbers = step
        try:
            return getattr(self.bench if word in BENCH_WORDS else self.hall, word)(*numbers)
        except VolumeError as e:
            return e.__class__.__name__

    def again(self):
        self.bench.again()
        self.hall = Hall(self.bench)

    def there(self):
        return [disk for disk, size in enumerate(self.bench.sizes()) if size is not None]

    def newest(self):
        """The sheet of the greatest number, or None."""
        sheets = [self.bench.sheet(disk) for disk in self.there()]
        return max([sheet for sheet in sheets if sheet is not None], default=None)


def some_number(chance, below, wrongs):
    if chance.random() < wrongs:
        return chance.choice(WRONG)
    return chance.randrange(below)


def some_step(chance, words=WORDS, wrongs=0.02):
    word = chance.choice(words)
    return (word, *[some_number(chance, below, wrongs) for below in BELOW[word]])


def some_sizes(chance, least=1, most=12):
    return [chance.randint(least, most) for _ in range(chance.randint(1, 6))]


def assert_alike(case, driver, model, msg):
    """A bench that isn't stopped, and nothing is to be seen: all lies on it as in the model."""
    from volumehall.maps import judge
    sheet = model.sheet()
    case.assertEqual(model.sizes, driver.bench.sizes(), msg=msg)
    case.assertIsNone(judge(model.sizes, sheet), msg=msg)
    for disk in driver.there():
        case.assertEqual(repr(sheet), repr(driver.bench.sheet(disk)), msg=msg)
    for (name, piece), places in model.lie.items():
        wished = [model.holds[name, 4 * piece + block] for block in range(4)]
        for place in places:
            case.assertEqual(wished, [driver.bench.get(*place, block) for block in range(4)], msg=msg)

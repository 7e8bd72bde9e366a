"""What all parts of the program ask of plain values."""


def is_number(thing, least, most):
    """Whether the thing is a whole number from least to most."""
    # To Python a truth is an integer; where numbers are told it is none.
    return isinstance(thing, int) and not isinstance(thing, bool) and least <= thing <= most


def copied(thing):
    """The thing anew, with all tuples and lists in it."""
    if not isinstance(thing, (tuple, list)):
        return thing
    # A list of what is begun instead of a call in a call: things may be nested deeply.
    begun = [(thing, [])]
    while True:
        source, parts = begun[-1]
        if len(parts) < len(source):
            part = source[len(parts)]
            if isinstance(part, (tuple, list)):
                begun.append((part, []))
            else:
                parts.append(part)
            continue
        begun.pop()
        whole = tuple(parts) if isinstance(source, tuple) else parts
        if not begun:
            return whole
        begun[-1][1].append(whole)

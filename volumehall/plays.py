"""Plays: steps of a bench and its halls, and the texts in which steps are written."""

from volumehall.bench import Bench
from volumehall.errors import BadText, VolumeError
from volumehall.hall import Hall

# How many numbers stand behind each word.
WORDS = {
    "make": 3, "grow": 2, "drop": 1, "mirror": 2, "leave": 1, "stay": 1, "read": 2, "write": 3, "step": 0, "room": 1,
    "lacks": 0, "lost": 0, "volumes": 0, "places": 1, "copying": 0, "lose": 1, "bring": 2, "arm": 1, "again": 0,
}
FIGURES = "0123456789"
MOST_FIGURES = 4


def do_on_hall(hall, step):
    """Do a step of a hall, and tell what it tells."""
    match step:
        case ("make", name, pieces, copies):
            return hall.make(name, pieces, copies)
        case ("grow", name, pieces):
            return hall.grow(name, pieces)
        case ("drop", name):
            return hall.drop(name)
        case ("mirror", name, copies):
            return hall.mirror(name, copies)
        case ("leave", disk):
            return hall.leave(disk)
        case ("stay", disk):
            return hall.stay(disk)
        case ("read", name, block):
            return hall.read(name, block)
        case ("write", name, block, number):
            return hall.write(name, block, number)
        case ("step",):
            return hall.step()
        case ("room", copies):
            return hall.room(copies)
        case ("lacks",):
            return hall.lacks()
        case ("lost",):
            return hall.lost()
        case ("volumes",):
            return hall.volumes()
        case ("places", name):
            return hall.places(name)
        case ("copying",):
            return hall.copying()


class Play:
    """A bench, and the hall that is made of it."""

    def __init__(self, sizes):
        self._bench = Bench(sizes)
        self._hall = Hall(self._bench)

    def do(self, step):
        """Do a step; tell what it tells, or the name of the class that refuses it."""
        try:
            return self._do(step)
        except VolumeError as e:
            return e.kind

    def _do(self, step):
        """Do a step, and tell what it tells."""
        match step:
            case ("lose", disk):
                return self._bench.lose(disk)
            case ("bring", disk, pieces):
                return self._bench.bring(disk, pieces)
            case ("arm", count):
                return self._bench.arm(count)
            case ("again",):
                return self._again()
            case _:
                return do_on_hall(self._hall, step)

    def _again(self):
        """Let the bench go on, and make a new hall of it."""
        self._bench.again()
        self._hall = Hall(self._bench)


def played(sizes, steps):
    """What the steps of a play tell, and the Play behind them."""
    play = Play(sizes)
    return ([play.do(step) for step in steps], play)


def written(steps):
    """The text of some steps, a row for each."""
    return "\n".join([" ".join([str(part) for part in step]) for step in steps])


def is_figures(text):
    """Whether the text is a number of one to four figures, none needless."""
    if not 1 <= len(text) <= MOST_FIGURES or not all([sign in FIGURES for sign in text]):
        return False
    return text == "0" or text[0] != "0"


def read_row(row, line):
    """The step of a row of this number."""
    word, *numbers = line.split(" ")
    if word not in WORDS or len(numbers) != WORDS[word]:
        raise BadText(row)
    if not all([is_figures(number) for number in numbers]):
        raise BadText(row)
    return (word, *[int(number) for number in numbers])


def read(text):
    """The steps of a text."""
    if text == "":
        return []
    return [read_row(row, line) for row, line in enumerate(text.split("\n"))]

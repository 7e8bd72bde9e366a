"""A simple model of a hall by the words of the document: it lays nothing and stops nowhere."""

import copy

HALL_WORDS = (
    "make", "grow", "drop", "mirror", "leave", "stay", "read", "write", "step", "room", "lacks", "lost", "volumes",
    "places", "copying",
)


class Refused(Exception):
    """A refusal of the model; its text is the name of the class."""


def number_in(thing, least, most):
    return thing.__class__ is int and least <= thing <= most


def refuse_if(test, kind):
    if test:
        raise Refused(kind)


class Model:
    def __init__(self, sizes):
        self.sizes = list(sizes)
        self.new = set(range(len(sizes)))
        self.again()

    def again(self):
        """A hall is made, of the newest sheet: its map is laid, and no copy is under way."""
        if all(size is None or disk in self.new for disk, size in enumerate(self.sizes)):
            # No sheet is left.
            self.wished, self.lie, self.holds, self.leaving, self.number = {}, {}, {}, set(), 0
        self.under = None
        self.forget()
        self.number += 1

    def twin(self):
        return copy.deepcopy(self)

    def sheet(self):
        rows = tuple(
            (name, self.wished[name], tuple(tuple(self.lie[name, piece]) for piece in range(self.length(name))))
            for name in sorted(self.wished)
        )
        return (self.number, rows, tuple(sorted(self.leaving)))

    def length(self, name):
        return sum(1 for other, _ in self.lie if other == name)

    def do(self, step):
        """What a step tells, or the name of a refusal."""
        word, *numbers = step
        try:
            if word in HALL_WORDS:
                self.refuse_bad(word, numbers)
                self.see()
            return getattr(self, word)(*numbers)
        except Refused as e:
            return str(e)

    def refuse_bad(self, word, numbers):
        ranges = {
            "make": ((0, 9), (0, 36), (1, 3)), "grow": ((0, 9), (0, 36)), "drop": ((0, 9),), "mirror": ((0, 9), (1, 3)),
            "read": ((0, 9),), "write": ((0, 9),), "places": ((0, 9),), "room": ((1, 3),),
        }
        for number, (least, most) in zip(numbers, ranges.get(word, ())):
            refuse_if(not number_in(number, least, most), "BadVolume")

    def see(self):
        before, new = self.sheet(), bool(self.new)
        self.forget()
        if new or self.sheet() != before:
            self.number += 1

    def forget(self):
        away = self.new | {disk for disk, size in enumerate(self.sizes) if size is None}
        for at, places in self.lie.items():
            self.lie[at] = [place for place in places if place[0] not in away]
        self.leaving -= away
        if self.under:
            name, piece, goal, over, _ = self.under
            gone = goal[0] in away or over and over[0] in away
            if gone or not self.lie[name, piece]:
                self.under = None
        self.new = set()

    def free(self, disk):
        if self.sizes[disk] is None or disk in self.leaving:
            return []
        taken = {place for places in self.lie.values() for place in places}
        if self.under:
            taken.add(self.under[2])
        return [piece for piece in range(self.sizes[disk]) if (disk, piece) not in taken]

    def best(self, but=()):
        """The disks that have something free, the ones that get a piece first ahead."""
        counts = [(-len(self.free(disk)), disk) for disk in range(len(self.sizes)) if disk not in but]
        return [disk for count, disk in sorted(counts) if count]

    def add_pieces(self, name, count):
        """Pieces one by one; where there isn't room for one, none of them stays."""
        first = self.length(name)
        for piece in range(first, first + count):
            disks = self.best()[:self.wished[name]]
            if len(disks) < self.wished[name]:
                for added in range(first, piece):
                    del self.lie[name, added]
                raise Refused("Full")
            self.lie[name, piece] = [(disk, self.free(disk)[0]) for disk in disks]
        for block in range(4 * first, 4 * (first + count)):
            self.holds[name, block] = 0

    def make(self, name, pieces, copies):
        refuse_if(name in self.wished, "NoVolume")
        self.wished[name] = copies
        try:
            self.add_pieces(name, pieces)
        except Refused:
            del self.wished[name]
            raise
        self.number += 1

    def there(self, name):
        refuse_if(name not in self.wished, "NoVolume")

    def grow(self, name, pieces):
        self.there(name)
        refuse_if(self.length(name) + pieces > 36, "BadVolume")
        self.add_pieces(name, pieces)
        if pieces:
            self.number += 1

    def end_under(self, test):
        if self.under and test(*self.under):
            self.under = None

    def drop(self, name):
        self.there(name)
        self.end_under(lambda other, *_: other == name)
        for kept in (self.lie, self.holds):
            for at in [at for at in kept if at[0] == name]:
                del kept[at]
        del self.wished[name]
        self.number += 1

    def mirror(self, name, copies):
        self.there(name)
        self.end_under(lambda other, *_: other == name)
        if copies == self.wished[name]:
            return
        self.wished[name] = copies
        for piece in range(self.length(name)):
            places = self.lie[name, piece]
            while len(places) > copies:
                on_leaving = [place for place in places if place[0] in self.leaving]
                places.remove((on_leaving or places)[-1])
        self.number += 1

    def is_disk(self, disk):
        return number_in(disk, 0, len(self.sizes) - 1)

    def leave(self, disk):
        refuse_if(not self.is_disk(disk) or self.sizes[disk] is None or disk in self.leaving, "NoDisk")
        self.end_under(lambda name, piece, goal, over, many: goal[0] == disk)
        self.leaving.add(disk)
        self.number += 1

    def stay(self, disk):
        refuse_if(not self.is_disk(disk) or disk not in self.leaving, "NoDisk")
        self.end_under(lambda name, piece, goal, over, many: over and over[0] == disk)
        self.leaving.remove(disk)
        self.number += 1

    def read(self, name, block):
        self.there(name)
        refuse_if(block.__class__ is not int or (name, block) not in self.holds, "BadNumber")
        refuse_if(not self.lie[name, block // 4], "Lost")
        return self.holds[name, block]

    def write(self, name, block, number):
        self.read(name, block)
        refuse_if(not number_in(number, 0, 999), "BadNumber")
        self.holds[name, block] = number

    def room(self, copies):
        frees = [len(self.free(disk)) for disk in range(len(self.sizes))]
        # So many pieces can lie on unlike disks as the disks together take, each at most one copy of a piece.
        return max(count for count in range(73) if sum(min(free, count) for free in frees) >= count * copies)

    def due(self):
        for name, piece in sorted(self.lie):
            places = self.lie[name, piece]
            over = [place for place in places if place[0] in self.leaving]
            goals = self.best([place[0] for place in places])
            if places and goals and (over or len(places) < self.wished[name]):
                return [name, piece, (goals[0], self.free(goals[0])[0]), over[0] if over else None, 0]
        return None

    def step(self):
        self.under = self.under or self.due()
        if not self.under:
            return None
        self.under[4] += 1
        name, piece, goal, over, many = self.under
        if many == 4:
            places = self.lie[name, piece]
            if over:
                places[places.index(over)] = goal
            else:
                places.append(goal)
            self.under = None
            self.number += 1
        return (name, piece, goal[0], many)

    def copying(self):
        return tuple(self.under) if self.under else None

    def volumes(self):
        return [(name, self.length(name), self.wished[name]) for name in sorted(self.wished)]

    def places(self, name):
        self.there(name)
        return [list(self.lie[name, piece]) for piece in range(self.length(name))]

    def lacks(self):
        lacking = sum(self.wished[name] - len(places) for (name, _), places in self.lie.items())
        places = [place for places in self.lie.values() for place in places]
        return (lacking, sum(1 for disk, _ in places if disk in self.leaving))

    def lost(self):
        return sorted(at for at, places in self.lie.items() if not places)

    def lose(self, disk):
        refuse_if(not self.is_disk(disk) or self.sizes[disk] is None, "NoDisk")
        self.sizes[disk] = None
        self.new.discard(disk)

    def bring(self, disk, pieces):
        refuse_if(not self.is_disk(disk) or self.sizes[disk] is not None, "NoDisk")
        refuse_if(not number_in(pieces, 1, 12), "BadSizes")
        self.sizes[disk] = pieces
        self.new.add(disk)

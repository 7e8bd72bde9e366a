"""A hall: volumes over the disks of a bench."""

from volumehall.bench import BLOCKS, MOST_NUMBER
from volumehall.chart import Chart, Volume, newest
from volumehall.errors import BadNumber, BadVolume, Full, Lost, NoDisk, NoVolume
from volumehall.free import count_room, free_pieces, one_more, take_places
from volumehall.maps import MOST_COPIES, MOST_NAME, MOST_LENGTH
from volumehall.moves import Move
from volumehall.plain import is_number
from volumehall.rack import Rack


def check_name(name):
    """Refuse a name that no volume has."""
    if not is_number(name, 0, MOST_NAME):
        raise BadVolume("a name is a number from 0 to 9")


def check_length(pieces):
    """Refuse a count of pieces that no volume has."""
    if not is_number(pieces, 0, MOST_LENGTH):
        raise BadVolume("a volume has 0 to 36 pieces")


def check_copies(copies):
    """Refuse a count of copies that can't be wished."""
    if not is_number(copies, 1, MOST_COPIES):
        raise BadVolume("a volume has 1 to 3 copies")


def empty_disks(sheets):
    """The disks on which nothing of the map lies any more: halls lay a sheet on each disk before they use it."""
    return [disk for disk, sheet in enumerate(sheets) if sheet is None]


class Hall:
    """Volumes over the disks of a bench. All that it knows lies on the disks, but for a copy under way."""

    def __init__(self, bench):
        self._rack = Rack(bench)
        self._move = None
        sheets = self._rack.sheets()
        self._chart = Chart(newest(self._rack.counts(), sheets))
        self._chart.forget(empty_disks(sheets))
        self._make_alike()
        self._spread()

    def _make_alike(self):
        """Let all copies of a piece hold what its first place does."""
        for _, _, places, _ in self._chart.each_piece():
            for place in places[1:]:
                self._rack.hold_alike(place, [self._rack.held(places[0], block) for block in range(BLOCKS)])

    def _spread(self):
        """Lay the map on all disks that are there, by a number greater by 1."""
        self._rack.lay_on_all(self._chart.next_sheet())

    def _see(self):
        """Take what went out of the map, and lay it if it is changed or a disk is new."""
        sheets = self._rack.sheets()
        empty = empty_disks(sheets)
        changed = self._chart.forget(empty)
        self._end_move_off(empty)
        counts = self._rack.counts()
        if changed or any([counts[disk] is not None for disk in empty]):
            self._spread()

    def _end_move_off(self, empty):
        """End the copy under way if what it needs lay on these disks."""
        move = self._move
        if move is not None and (move.needs(empty) or not self._places_of(move)):
            self._move = None

    def _places_of(self, move):
        """The places in the map of the piece of a copy under way."""
        return self._chart.named[move.name].pieces[move.piece]

    def _end_move_of(self, name):
        """End the copy under way if it is one of this volume."""
        if self._move is not None and self._move.name == name:
            self._move = None

    def _volume(self, name):
        """The volume of this name."""
        if name not in self._chart.named:
            raise NoVolume("there is no such volume")
        return self._chart.named[name]

    def _is_leaving(self, disk):
        """Whether this is the number of a disk that is to be emptied."""
        return is_number(disk, 0, len(self._rack.counts()) - 1) and disk in self._chart.leaving

    def _is_there(self, disk):
        """Whether this is the number of a disk that is there."""
        counts = self._rack.counts()
        return is_number(disk, 0, len(counts) - 1) and counts[disk] is not None

    def _free(self):
        """The free pieces of each disk that may get some."""
        taken = self._chart.taken()
        if self._move is not None:
            taken[self._move.goal] = True
        return free_pieces(self._rack.counts(), self._chart.leaving, taken)

    def _new_pieces(self, count, copies):
        """The places of so many new pieces, all blocks 0."""
        free = self._free()
        pieces = []
        for _ in range(count):
            places = take_places(free, copies)
            if places is None:
                raise Full("there isn't room enough")
            pieces.append(places)
        for places in pieces:
            for place in places:
                self._rack.hold_alike(place, [0] * BLOCKS)
        return pieces

    def make(self, name, pieces, copies):
        """Make a volume of so many pieces, each with so many copies."""
        check_name(name)
        check_length(pieces)
        check_copies(copies)
        self._see()
        if name in self._chart.named:
            raise NoVolume("the volume is there already")
        self._chart.named[name] = Volume(copies, self._new_pieces(pieces, copies))
        self._spread()

    def grow(self, name, pieces):
        """Let a volume have so many pieces more."""
        check_name(name)
        check_length(pieces)
        self._see()
        volume = self._volume(name)
        check_length(len(volume.pieces) + pieces)
        more = self._new_pieces(pieces, volume.copies)
        if more:
            volume.pieces.extend(more)
            self._spread()

    def drop(self, name):
        """Let a volume go."""
        check_name(name)
        self._see()
        self._volume(name)
        self._end_move_of(name)
        del self._chart.named[name]
        self._spread()

    def mirror(self, name, copies):
        """Wish another count of copies; what is too many goes at once."""
        check_name(name)
        check_copies(copies)
        self._see()
        volume = self._volume(name)
        self._end_move_of(name)
        if copies != volume.copies:
            volume.copies = copies
            volume.pieces = [self._chart.trimmed(places, copies) for places in volume.pieces]
            self._spread()

    def leave(self, disk):
        """A disk is to be emptied."""
        self._see()
        if not self._is_there(disk) or self._is_leaving(disk):
            raise NoDisk("the disk isn't there, or is to be emptied already")
        if self._move is not None and self._move.goal[0] == disk:
            self._move = None
        self._chart.close(disk)
        self._spread()

    def stay(self, disk):
        """A disk isn't to be emptied any more."""
        self._see()
        if not self._is_leaving(disk):
            raise NoDisk("the disk wasn't to be emptied")
        if self._move is not None and self._move.takes_over([disk]):
            self._move = None
        self._chart.reopen(disk)
        self._spread()

    def _check_block(self, name, block):
        """Refuse a block that there isn't, or of which no copy is left."""
        pieces = self._volume(name).pieces
        if not is_number(block, 0, len(pieces) * BLOCKS - 1):
            raise BadNumber("the volume has no such block")
        if not pieces[block // BLOCKS]:
            raise Lost("no copy of the piece is left")

    def read(self, name, block):
        """What a block of a volume holds."""
        check_name(name)
        self._see()
        self._check_block(name, block)
        places = self._chart.named[name].pieces[block // BLOCKS]
        return self._rack.held(places[0], block % BLOCKS)

    def write(self, name, block, number):
        """Let a block of a volume hold another number."""
        check_name(name)
        self._see()
        self._check_block(name, block)
        if not is_number(number, 0, MOST_NUMBER):
            raise BadNumber("a block holds 0 to 999")
        for place in self._written_places(name, block // BLOCKS, block % BLOCKS):
            self._rack.hold(place, block % BLOCKS, number)

    def _written_places(self, name, piece, block):
        """Where a piece's block is written: its copies, and the one under way, if the block is copied already."""
        places = list(self._chart.named[name].pieces[piece])
        move = self._move
        if move is not None and (move.name, move.piece) == (name, piece) and block < move.blocks:
            places.append(move.goal)
        return places

    def room(self, copies):
        """The most pieces of so many copies that could be made now."""
        check_copies(copies)
        self._see()
        return count_room(self._free(), copies)

    def step(self):
        """Copy a block more; tell (name, piece, disk, how many blocks are copied), or None if nothing is due."""
        self._see()
        if self._move is None:
            self._move = self._first_due()
        move = self._move
        if move is None:
            return None
        self._rack.hold(move.goal, move.blocks, self._rack.held(self._places_of(move)[0], move.blocks))
        move.blocks += 1
        if move.blocks == BLOCKS:
            self._finish(move)
        return (move.name, move.piece, move.goal[0], move.blocks)

    def _first_due(self):
        """The first copy that is due, to begin with; None, if nothing is."""
        free = self._free()
        for name, piece, places, copies in self._chart.each_piece():
            over = self._chart.first_leaving(places)
            if places and (over is not None or len(places) < copies):
                goal = one_more(free, places)
                if goal is not None:
                    return Move(name, piece, goal, over)
        return None

    def _finish(self, move):
        """Take a copy that is whole into the map."""
        places = self._places_of(move)
        if move.over is None:
            places.append(move.goal)
        else:
            places[places.index(move.over)] = move.goal
        self._move = None
        self._spread()

    def copying(self):
        """(name, piece, goal, the place taken over or None, how many blocks) of the copy under way, or None."""
        self._see()
        move = self._move
        if move is None:
            return None
        return (move.name, move.piece, move.goal, move.over, move.blocks)

    def volumes(self):
        """(name, how many pieces, copies wished) of all volumes, rising."""
        self._see()
        return [(name, len(pieces), copies) for name, copies, pieces in self._chart.rows()]

    def places(self, name):
        """The list of places of each piece of a volume."""
        check_name(name)
        self._see()
        return [list(places) for places in self._volume(name).pieces]

    def lacks(self):
        """How many copies lack in all, and how many places lie on disks that are to be emptied."""
        self._see()
        lacking = 0
        leaving = 0
        for _, _, places, copies in self._chart.each_piece():
            lacking += copies - len(places)
            leaving += len([place for place in places if place[0] in self._chart.leaving])
        return (lacking, leaving)

    def lost(self):
        """(name, piece) of all pieces of which no copy is left, rising."""
        self._see()
        return [(name, piece) for name, piece, places, _ in self._chart.each_piece() if not places]

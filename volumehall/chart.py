"""The map of a hall: which volumes there are, and where their pieces lie."""

from volumehall.bench import MOST_PIECES
from volumehall.maps import is_tuple_of, judge
from volumehall.plain import is_number

NO_SHEET = (0, (), ())
FAR = 10 ** 20


class Volume:
    """How many copies are wished, and the list of places of each piece."""

    def __init__(self, copies, pieces):
        self.copies = copies
        self.pieces = pieces


class Chart:
    """A sheet that can be changed: its number, its volumes by their names, and the disks that are to be emptied."""

    def __init__(self, sheet):
        self.number, rows, leaving = sheet
        self.named = {}
        for name, copies, pieces in rows:
            self.named[name] = Volume(copies, [list(places) for places in pieces])
        self.leaving = list(leaving)

    def rows(self):
        """The volumes as they stand on a sheet."""
        found = []
        for name in sorted(self.named):
            volume = self.named[name]
            found.append((name, volume.copies, tuple([tuple(places) for places in volume.pieces])))
        return tuple(found)

    def as_sheet(self):
        """The map as it is laid."""
        return (self.number, self.rows(), tuple(self.leaving))

    def next_sheet(self):
        """The map as it is laid next, by a number greater by 1."""
        self.number += 1
        return self.as_sheet()

    def close(self, disk):
        """A disk is to be emptied."""
        self.leaving = sorted([*self.leaving, disk])

    def reopen(self, disk):
        """A disk isn't to be emptied any more."""
        self.leaving.remove(disk)

    def each_piece(self):
        """(name, piece, its places, copies wished) of all pieces, rising."""
        found = []
        for name in sorted(self.named):
            volume = self.named[name]
            for piece, places in enumerate(volume.pieces):
                found.append((name, piece, list(places), volume.copies))
        return found

    def taken(self):
        """All places of the map, each with True."""
        found = {}
        for _, _, places, _ in self.each_piece():
            for place in places:
                found[place] = True
        return found

    def forget(self, gone):
        """Take what is on some disks out of the map; tell whether there was anything."""
        before = self.as_sheet()
        for name in sorted(self.named):
            volume = self.named[name]
            volume.pieces = [[place for place in places if place[0] not in gone] for places in volume.pieces]
        self.leaving = [disk for disk in self.leaving if disk not in gone]
        return before != self.as_sheet()

    def first_leaving(self, places):
        """The first of the places on a disk that is to be emptied, or None."""
        for place in places:
            if place[0] in self.leaving:
                return place
        return None

    def trimmed(self, places, copies):
        """So many of the places: the first ones stay, those on disks that are to be emptied going first."""
        ranked = sorted(list(enumerate(places)), key=lambda row: (row[1][0] in self.leaving, row[0]))
        return [place for _, place in sorted(ranked[:copies])]


def is_laid(sizes, sheet):
    """Whether a hall can have laid this on disks of these sizes."""
    # Halls go on beyond the greatest number that is judged, rather than forget all.
    if not is_tuple_of(sheet, 3) or not is_number(sheet[0], 0, FAR):
        return False
    return judge(sizes, (0, sheet[1], sheet[2])) is None


def newest(sizes, sheets):
    """The sheet of the greatest number, of those that a hall can have laid; some disks went since, or came anew."""
    former = [MOST_PIECES if sheet is None else sizes[disk] for disk, sheet in enumerate(sheets)]
    found = NO_SHEET
    least = 0
    for sheet in sheets:
        if is_laid(former, sheet) and sheet[0] >= least:
            found = sheet
            least = sheet[0] + 1
    return found

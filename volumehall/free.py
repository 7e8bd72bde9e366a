"""Free pieces of disks, and which of them a piece of a volume gets."""


def free_pieces(sizes, leaving, taken):
    """The free pieces, rising, of each disk that may get some, by its number."""
    free = {}
    for disk, count in enumerate(sizes):
        if count is not None and disk not in leaving:
            free[disk] = [piece for piece in range(count) if (disk, piece) not in taken]
    return free


def best_disks(free):
    """The disks with free pieces: those with most ahead, then the least numbers."""
    some = [disk for disk in free if free[disk]]
    return sorted(some, key=lambda disk: (-len(free[disk]), disk))


def take_places(free, copies):
    """The places of one piece more, which are free no longer; None, if there isn't room."""
    disks = best_disks(free)[:copies]
    if len(disks) < copies:
        return None
    places = []
    for disk in disks:
        places.append((disk, free[disk].pop(0)))
    return places


def count_room(free, copies):
    """The most pieces of so many copies for which there is room; what is free is used up."""
    # The fullest disks first leave the most disks with something free, so no other choice finds room for more.
    count = 0
    while take_places(free, copies) is not None:
        count += 1
    return count


def one_more(free, places):
    """The place of one copy more of a piece that has these places; None, if there isn't room."""
    own = [place[0] for place in places]
    disks = best_disks({disk: free[disk] for disk in free if disk not in own})
    if not disks:
        return None
    return (disks[0], free[disks[0]][0])

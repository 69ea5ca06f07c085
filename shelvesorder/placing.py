"""Which shelf each book gets: in order, none too full, the fewest moved, lesser shelves first."""

# More than any count of moved books: it stands where there is no way at all.
NO_WAY = 1000000


def sums_before(numbers):
    sums = [0]
    for number in numbers:
        sums.append(sums[-1] + number)
    return sums


# A book that had no shelf is new: it isn't moved, wherever it is put.
def is_moved(old, shelf):
    return old is not None and old != shelf


def count_moved(olds, shelves):
    return sum([1 for old, shelf in zip(olds, shelves) if is_moved(old, shelf)])


# For each book k: if this shelf's books begin with k, where do they end (the first one that is on a later
# shelf), and how many from k on are moved then? later[k] is how many are if the later shelves begin with k.
#
# The ends that k may have reach from k (an empty shelf) as far as the room does, and both bounds only go
# down as k does. So the ends worth trying are kept in a row, the farthest first, none with a greater total
# than a nearer one: its head is the best, and of several equal ones the farthest, which gives the first
# book that differs the lesser shelf.
def fill_shelf(room, widths, moved, later):
    totals = [here + behind for here, behind in zip(moved, later)]
    ends = [0] * len(totals)
    fewest = [0] * len(totals)
    tried = []
    head = 0
    for k in range(len(totals) - 1, -1, -1):
        while len(tried) > head and totals[tried[-1]] > totals[k]:
            tried.pop()
        tried.append(k)
        while widths[tried[head]] - widths[k] > room:
            head += 1
        ends[k] = tried[head]
        fewest[k] = totals[ends[k]] - moved[k]
    return (ends, fewest)


# From the last shelf to the first, as each shelf's choice needs what the later ones can do.
def fill_shelves(rooms, wides, olds):
    widths = sums_before(wides)
    fewest = [NO_WAY] * len(wides) + [0]
    ends_behind = []
    for shelf in range(len(rooms) - 1, -1, -1):
        moved = sums_before([1 if is_moved(old, shelf) else 0 for old in olds])
        filled = fill_shelf(rooms[shelf], widths, moved, fewest)
        ends_behind.append(filled[0])
        fewest = filled[1]
    return (list(reversed(ends_behind)), fewest[0])


# rooms: of each shelf. wides and olds: of each book in order, how wide it is and the shelf it had, or None.
# Gives back the shelf of each book, or None if they can't be put so.
def place_books(rooms, wides, olds):
    filled = fill_shelves(rooms, wides, olds)
    if filled[1] >= NO_WAY:
        return None
    shelves = []
    for shelf, ends in enumerate(filled[0]):
        first = len(shelves)
        shelves.extend([shelf] * (ends[first] - first))
    return shelves

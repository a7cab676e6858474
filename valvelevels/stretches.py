"""Ranges that are known to be right, and the sets of places that they make up."""

from valvelevels.spots import copied_place, is_root, order_of_places

ALL = ((0, 1), False, None, False)


def side(stretch, place):
    """Return -1, 0 or 1 if a place lies below a range, in it, above it."""
    low, low_in, high, high_in = stretch
    lower, upper = order_of_places(place, low), order_of_places(place, high)
    if lower < 0 or (lower == 0 and not low_in):
        return -1
    if upper > 0 or (upper == 0 and not high_in):
        return 1
    return 0


def lies_in(told, place):
    """Return True if a place lies in one of some ranges."""
    return any([side(stretch, place) == 0 for stretch in told])


def simplest_of(stretch):
    """Return the simplest place of a range."""
    if order_of_places(stretch[0], stretch[2]) == 0:
        return copied_place(stretch[0])
    # All fractions above 0 lie between 0 and the tuple (1, 0): between two such, the simplest is the sum
    # of both, taken by parts. So one goes from either end towards the other one, until one is in the range.
    start, goal, way = (0, 1), (1, 0), -1
    while True:
        steps = steps_out(stretch, start, goal, way)
        spot = mixed(start, goal, steps)
        if side(stretch, spot) == 0:
            return spot
        start, goal, way = spot, mixed(start, goal, steps - 1), -way


def is_simpler(one, other):
    """Return True if the one place is simpler than the other one."""
    if is_root(one) and is_root(other):
        return order_of_places(one, other) < 0
    if is_root(one) or is_root(other):
        return is_root(other)
    return (one[1], one[0]) < (other[1], other[0])


def simplest_in(told):
    """Return the simplest place that lies in some ranges, None if there are none."""
    found = None
    for place in [simplest_of(stretch) for stretch in told]:
        if found is None or is_simpler(place, found):
            found = place
    return found


def mixed(start, goal, steps):
    """Return the fraction that is reached by some steps from a start towards a goal."""
    return (start[0] + steps * goal[0], start[1] + steps * goal[1])


def steps_out(stretch, start, goal, way):
    """Return how many steps towards a goal lead to the first fraction not on one side of a range."""
    many = 1
    while side(stretch, mixed(start, goal, many)) == way:
        many = many * 2
    few = many // 2
    while many - few > 1:
        middle = (few + many) // 2
        if side(stretch, mixed(start, goal, middle)) == way:
            few = middle
        else:
            many = middle
    return many


def group_of(end, ends, groups):
    """Return where an end stands, or would stand, among groups of equal ends, and True if it stands there."""
    low, high = 0, len(groups)
    while low < high:
        middle = (low + high) // 2
        order = order_of_places(end, ends[groups[middle][0]])
        if order == 0:
            return middle, True
        if order < 0:
            high = middle
        else:
            low = middle + 1
    return low, False


def ranked(ends):
    """Return the unlike ones among some ends, ascending, and the list of the numbers of each among them."""
    groups = []
    for k, end in enumerate(ends):
        at, met = group_of(end, ends, groups)
        if met:
            groups[at] = groups[at] + [k]
        else:
            groups.insert(at, [k])
    ranks = [0] * len(ends)
    for rank, group in enumerate(groups):
        for k in group:
            ranks[k] = rank
    return [ends[group[0]] for group in groups], ranks


def ends_of(told):
    """Return the ends of some ranges, two for each."""
    return [end for stretch in told for end in (stretch[0], stretch[2])]


def counted_cells(told, ranks, many):
    """Return, of each cell between and on ranked ends, in how many of some ranges it lies.

    The end with rank k is cell 2 * k, what lies between it and the next one is the cell behind.
    """
    cells = [0] * (2 * many)
    for k, stretch in enumerate(told):
        first = 2 * ranks[2 * k] + (0 if stretch[1] else 1)
        last = 2 * ranks[2 * k + 1] - (0 if stretch[3] else 1)
        for cell in range(first, last + 1):
            cells[cell] = cells[cell] + 1
    return cells


def filled(told, ranks, many):
    """Return, of each cell between and on ranked ends, whether it lies in some ranges."""
    return [number > 0 for number in counted_cells(told, ranks, many)]


def gathered(cells, ends):
    """Return the fewest ranges, in order, that are made up of the cells which are filled."""
    found, first = [], 0
    for cell, full in enumerate(cells):
        if not full:
            first = cell + 1
        elif not cells[cell + 1]:
            low, high = ends[first // 2], ends[(cell + 1) // 2]
            found = found + [(copied_place(low), first % 2 == 0, copied_place(high), cell % 2 == 0)]
    return found


def cells_of(lists):
    """Return the ranked ends of all of some lists of ranges and, for each list, which cells it fills."""
    ends, ranks = ranked([end for told in lists for end in ends_of(told)])
    found, behind = [], 0
    for told in lists:
        found = found + [filled(told, ranks[behind:behind + 2 * len(told)], len(ends))]
        behind = behind + 2 * len(told)
    return ends, found


def union_of(told):
    """Return the set of all places that lie in some ranges."""
    ends, cells = cells_of([told])
    return gathered(cells[0], ends)


def difference_of(one, other):
    """Return the set of the places that lie in some ranges, and in none of some other ones."""
    ends, (mine, yours) = cells_of([one, other])
    return gathered([mine[k] and not yours[k] for k in range(len(mine))], ends)


def overlap_of(one, other):
    """Return the set of the places that lie in some ranges, and in some other ones, too."""
    ends, (mine, yours) = cells_of([one, other])
    return gathered([mine[k] and yours[k] for k in range(len(mine))], ends)


def are_same(one, other):
    """Return True if two lists of ranges have the same places."""
    _, (mine, yours) = cells_of([one, other])
    return mine == yours


def is_parted(told):
    """Return True if each place lies in just one of some ranges."""
    ends, ranks = ranked(ends_of(told + [ALL]))
    # Neither 0, which comes first, nor what is beyond all widths, which comes last, is a place.
    return all([number == 1 for number in counted_cells(told, ranks, len(ends))[1:-2]])

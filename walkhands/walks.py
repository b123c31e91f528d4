"""Walks of rectangles, and what families of walks collect (points 21 to 24)."""

from walkhands.errors import NotAFamily

MOST_WALKS = 8


def collected(board, family):
    """Return the sum of the amounts of all cells that at least one of the walks visits."""
    if not is_family(board, family):
        raise NotAFamily("the walks are not a family of a rectangle of the board")
    total = 0
    starts = (1,) * len(family)
    for r in range(len(family[0])):
        stops = tuple([walk[r] for walk in family])
        total += _collected_in_row(board[r], starts, stops)
        starts = stops
    return total


def is_family(board, family):
    """Return True if a tuple of tuples of integers is a family of a rectangle of the board."""
    if len(family) < 1 or len(family) > MOST_WALKS:
        return False
    rows = len(family[0])
    if rows < 1 or rows > len(board):
        return False
    columns = family[0][-1]
    if columns > len(board[0]):
        return False
    for walk in family:
        if not is_walk(walk, rows, columns):
            return False
    return True


def is_walk(walk, rows, columns):
    """Return True if a tuple of integers is a walk of the rectangle."""
    if len(walk) != rows or walk[-1] != columns:
        return False
    least = 1
    for column in walk:
        if column < least:
            return False
        least = column
    return True


def _collected_in_row(amounts, starts, stops):
    total = 0
    for j, amount in enumerate(amounts):
        if _is_visited(j + 1, starts, stops):
            total += amount
    return total


def _is_visited(column, starts, stops):
    for start, stop in zip(starts, stops):
        if start <= column <= stop:
            return True
    return False


def best_family(board, count, rows, columns):
    """Return the first one of all families of the rectangle that collect the most."""
    # If a walk leaves rows to the left of where an earlier one does, the two can exchange these ways:
    # together they visit the same cells, and the family comes earlier. So no walk of the first family
    # does, and of all beginnings with the same ends the first one of the best ones is enough.
    best = {(1,) * count: (0, ((),) * count)}
    for r in range(rows):
        amounts = board[r] if r < len(board) else ()
        ends = _ends(count, columns) if r < rows - 1 else [(columns,) * count]
        best = _one_row_on(best, amounts, ends)
    # Only a rectangle without columns, which has no walks, leaves nothing to choose from.
    found = min(best.values(), default=(0, ()))
    return found[1]


def _ends(count, columns):
    """Return all tuples of so many columns that do not descend."""
    found = [()]
    for _ in range(count):
        found = [(*ends, column) for ends in found for column in range(ends[-1] if ends else 1, columns + 1)]
    return found


def _one_row_on(best, amounts, ends):
    further = {}
    for starts, (cost, family) in best.items():
        for stops in ends:
            if not _reaches(starts, stops):
                continue
            # What is collected lowers the cost, so the smaller one of two pairs is the better one.
            less = cost - _collected_in_row(amounts, starts, stops)
            longer = (less, tuple([(*walk, stop) for walk, stop in zip(family, stops)]))
            if stops not in further or longer < further[stops]:
                further[stops] = longer
    return further


def _reaches(starts, stops):
    for start, stop in zip(starts, stops):
        if stop < start:
            return False
    return True

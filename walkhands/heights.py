"""Heights of corners, their bound, the judge, and the told heights (points 25 to 27)."""

from walkhands.errors import NotHeights
from walkhands.walks import collected


def bound(board, heights, count):
    """Return what no family of so many walks of the rectangle of the heights collects more than."""
    if not _are_heights(board, heights):
        raise NotHeights("the integers are not heights of a rectangle of the board")
    total = count * heights[-1][-1]
    for u in range(1, len(heights)):
        for v in range(1, len(heights[0])):
            rise = heights[u][v] - max(heights[u - 1][v], heights[u][v - 1])
            total += max(board[u - 1][v - 1] - rise, 0)
    return total


def _are_heights(board, heights):
    if len(heights) < 2 or len(heights) > len(board) + 1:
        return False
    corners = len(heights[0])
    if corners < 2 or corners > len(board[0]) + 1:
        return False
    if heights[0] != (0,) * corners:
        return False
    for above, row in zip(heights, heights[1:]):
        if not _rises_from(above, row):
            return False
    return True


def _rises_from(above, row):
    if len(row) != len(above) or row[0] != 0:
        return False
    for v in range(1, len(row)):
        if row[v] < above[v] or row[v] < row[v - 1]:
            return False
    return True


def judge(board, family, heights):
    """Return True if the family collects exactly the bound of the heights for as many walks."""
    total = collected(board, family)
    rows, columns = len(family[0]), family[0][-1]
    if len(heights) != rows + 1 or len(heights[0]) != columns + 1:
        raise NotHeights("the integers are not heights of the rectangle of the family")
    return total == bound(board, heights, len(family))


def told_heights(board, count, rows, columns):
    """Return the told heights for so many walks of the rectangle."""
    if rows < 1 or columns < 1:
        return ((0,) * (columns + 1),) * (rows + 1)
    # Each walk comes to a cell (u, v) at step u + v. One walk more than asked for goes forth; at that
    # step one of them stops in the cell, and the others meet the walks that come back from the end.
    steps = list(range(2, rows + columns + 1))
    forth = _most_at(board, (1,) * (count + 1), steps, 1, (rows, columns))
    back = _most_at(board, (rows,) * count, steps[::-1], -1, (rows, columns))
    most = back[2][(1,) * count]
    heights = [(0,) * (columns + 1)]
    for u in range(1, rows + 1):
        told = [_most_with(board, forth[u + v], back[u + v], u, u + v) - most for v in range(1, columns + 1)]
        heights.append((0, *told))
    return tuple(heights)


def _most_with(board, forth, back, row, step):
    """Return the most that the walks collect if one of them stops in this row at this step."""
    found = []
    for places, rest in back.items():
        first = forth[tuple(sorted((*places, row)))]
        # Both ways have collected where they meet.
        found.append(first + rest - _collected_at(board, places, step))
    return max(found)


def _most_at(board, start, steps, by, size):
    """Return for each step a dict that tells, for the rows the walks are in, the most they collected."""
    best = {start: _collected_at(board, start, steps[0])}
    tables = {steps[0]: best}
    for step in steps[1:]:
        further = {}
        for places, worth in best.items():
            for later in _moved(places, by, step, size):
                more = worth + _collected_at(board, later, step)
                further[later] = max(more, further.get(later, more))
        best = further
        tables[step] = best
    return tables


def _moved(places, by, step, size):
    """Return the rows in which walks can be at the step if they were in these rows one step before."""
    # It does not matter which walk is in which row, so rows in ascending order are enough.
    rows, columns = size
    found = [()]
    for row in places:
        found = [
            (*moved, there)
            for moved in found
            for there in (row, row + by)
            if 1 <= there <= rows and 1 <= step - there <= columns and (moved == () or moved[-1] <= there)
        ]
    return found


def _collected_at(board, places, step):
    return sum([_amount(board, row, step - row) for row in sorted(set(places))])


def _amount(board, row, column):
    # As for best_family, what lies outside of the board adds nothing.
    if row > len(board) or column > len(board[0]):
        return 0
    return board[row - 1][column - 1]

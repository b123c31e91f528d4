"""Stairs: paths of corners with shapes, and squares that are taken off or put in (points 28 to 30)."""

from walkhands.corners import border_of
from walkhands.errors import WrongPlace
from walkhands.shapes import grow, is_strip, shrink

MOST_STEPS = 8


def is_stair(path, shapes):
    """Return True if the path and the shapes are a stair."""
    rights = path.count("R")
    ups = path.count("U")
    if rights + ups != len(path) or len(shapes) != len(path) + 1:
        return False
    if not 1 <= rights <= MOST_STEPS or not 1 <= ups <= MOST_STEPS:
        return False
    if shapes[0] != () or shapes[-1] != ():
        return False
    for k, letter in enumerate(path):
        if not _is_step(letter, shapes[k], shapes[k + 1]):
            return False
    return True


def _is_step(letter, shape, following):
    if letter == "R":
        return is_strip(following, shape)
    return is_strip(shape, following)


def taken_off(path, shapes, index):
    """Return the path, the shapes and the count after a square is taken off."""
    _check_way(path, index, "RU")
    rho, count = shrink(shapes[index + 2], shapes[index], shapes[index + 1])
    return _with_way(path, index, "UR"), _with_middle(shapes, index, rho), count


def put_in(path, shapes, index, count):
    """Return the path and the shapes after a square with this count is put in."""
    _check_way(path, index, "UR")
    shape = grow(shapes[index + 1], shapes[index + 2], shapes[index], count)
    return _with_way(path, index, "RU"), _with_middle(shapes, index, shape)


def _check_way(path, index, way):
    # A slice would count a number below 0 from the end.
    if index < 0 or path[index:index + 2] != way:
        raise WrongPlace(f"the path {path} does not go {way} at index {index}")


def _with_way(path, index, way):
    return path[:index] + way + path[index + 2:]


def _with_middle(shapes, index, shape):
    return shapes[:index + 1] + [shape] + shapes[index + 2:]


def stair_of(board):
    """Return the stair of a board."""
    right, bottom = border_of(board)
    # Both end with the shape at the last corner, which the path passes once.
    path = "R" * (len(bottom) - 1) + "U" * (len(right) - 1)
    return path, bottom + right[:-1][::-1]


def amounts_above(path, shapes):
    """Return the counts of the squares above the path, row by row."""
    amounts = [[] for letter in path if letter == "U"]
    path_now = path
    shapes_now = shapes
    index = path_now.find("RU")
    while index >= 0:
        # The last row of the board is the one that the first step up passes.
        row = len(amounts) - 1 - path_now[:index].count("U")
        path_now, shapes_now, count = taken_off(path_now, shapes_now, index)
        amounts[row].append(count)
        index = path_now.find("RU")
    # A square can be taken off only after the one to its right.
    return [counts[::-1] for counts in amounts]

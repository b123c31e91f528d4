"""The shapes at the corners of a board, and its border (points 6 to 9)."""

from walkhands.errors import AmountTooGreat, DifferentEnds
from walkhands.shapes import local_rule, shrink

GREATEST_AMOUNT = 1000


def shapes_of(board):
    """Return the shapes at the corners, row by row."""
    columns = len(board[0]) if len(board) > 0 else 0
    corners = [[()] * (columns + 1)]
    for amounts in board:
        corners.append(_row_below(corners[-1], amounts))
    return corners


def _row_below(above, amounts):
    # Corners of a board are strips over one another, so the rule need not ask for it.
    row = [()]
    for j, amount in enumerate(amounts):
        row.append(local_rule(above[j], above[j + 1], row[j], amount))
    return row


def border_of(board):
    """Return the shapes in the last column and those in the last row."""
    corners = shapes_of(board)
    return [row[-1] for row in corners], corners[-1]


def board_of(right, bottom):
    """Return the board with this border."""
    if right[-1] != bottom[-1]:
        raise DifferentEnds("the two chains end with different shapes")
    rows = []
    below = bottom
    for i in range(len(right) - 2, -1, -1):
        below, amounts = _row_above(right[i], below)
        rows.append(amounts)
    return tuple(rows[::-1])


def _row_above(last, below):
    # The row of corners above the given one is found from its last shape back to the first.
    above = [last]
    amounts = []
    for j in range(len(below) - 2, -1, -1):
        rho, count = shrink(above[-1], below[j], below[j + 1])
        if count > GREATEST_AMOUNT:
            raise AmountTooGreat(f"an amount would be {count}")
        above.append(rho)
        amounts.append(count)
    return above[::-1], tuple(amounts[::-1])

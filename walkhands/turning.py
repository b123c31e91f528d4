"""Transposed and turned boards (point 31)."""


def transposed(board):
    """Return the board with rows and columns exchanged."""
    return tuple(zip(*board))


def turned(board):
    """Return the board with the rows in reverse order, and each row in reverse order."""
    return tuple([row[::-1] for row in board[::-1]])

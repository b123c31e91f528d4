"""What several tests share: small shapes, strips and boards, and the points written out again."""

from functools import lru_cache
from itertools import combinations_with_replacement, product


def padded(shape, length):
    return list(shape) + [0] * (length - len(shape))


def shapes_in_box(parts, greatest):
    """All shapes of at most so many parts, none of them greater than `greatest`."""
    rows = combinations_with_replacement(range(greatest, -1, -1), parts)
    return [tuple(value for value in row if value > 0) for row in rows]


def is_strip_over(upper, lower):
    """Point 2, over padded lists."""
    length = max(len(upper), len(lower)) + 2
    x, y = padded(upper, length), padded(lower, length)
    return all(x[r] >= y[r] for r in range(length)) and all(x[r + 1] <= y[r] for r in range(length - 1))


def strips_over(lower, shapes):
    return [upper for upper in shapes if is_strip_over(upper, lower)]


def chains_to(end, steps, shapes):
    """All chains of `steps` + 1 shapes that end with `end`."""
    if steps == 0:
        return [[()]] if end == () else []
    return [
        before + [end]
        for lower in shapes
        if is_strip_over(end, lower)
        for before in chains_to(lower, steps - 1, shapes)
    ]


def boards_with(rows, columns, amounts):
    """All boards of this size with amounts out of the given ones."""
    return [
        tuple(tuple(cells[i * columns:(i + 1) * columns]) for i in range(rows))
        for cells in product(amounts, repeat=rows * columns)
    ]


def mixed_board(rows, columns, seed, limit=1000):
    """A board of this size with amounts from 0 to the limit, the same at each call."""
    state = seed * 7919 + rows * 101 + columns
    board = []
    for _ in range(rows):
        row = []
        for _ in range(columns):
            state = (state * 1103515245 + 12345) & 0x7FFFFFFF
            row.append((state >> 8) % (limit + 1))
        board.append(tuple(row))
    return tuple(board)


def all_walks(rows, columns):
    """All walks of the rectangle as tuples, smaller ones first."""
    return [
        walk + (columns,) for walk in combinations_with_replacement(range(1, columns + 1), rows - 1)
    ]


def cells(walk):
    """The cells that a walk visits, step by step."""
    row, column = 1, 1
    visited = {(1, 1)}
    while (row, column) != (len(walk), walk[-1]):
        if column < walk[row - 1]:
            column += 1
        else:
            row += 1
        visited.add((row, column))
    return visited


def worth(board, visited):
    return sum(board[row - 1][column - 1] for row, column in visited)


def collected_by_the_words(board, family):
    return worth(board, set().union(*[cells(walk) for walk in family]))


@lru_cache(maxsize=None)
def all_visited(count, rows, columns):
    """All sets of cells that so many walks of the rectangle visit together."""
    ways = [frozenset(cells(walk)) for walk in all_walks(rows, columns)]
    return {frozenset().union(*family) for family in combinations_with_replacement(ways, count)}


def most_collected(board, count, rows, columns):
    """The most that so many walks collect together, found by trying all of them."""
    return max(worth(board, visited) for visited in all_visited(count, rows, columns))

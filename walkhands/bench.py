"""A bench: a board that is changed, with the shapes at its corners (points 10 to 14)."""

from walkhands.corners import GREATEST_AMOUNT, shapes_of
from walkhands.errors import NoSuchColumn, NoSuchCorner, NoSuchRow, TooManyChanges, WrongAmounts, WrongSize
from walkhands.shapes import local_rule

MOST_LINES = 8
MOST_CHANGES = 100


class Bench:
    """A board that is changed; only squares that a change reaches are grown again."""

    def __init__(self, board):
        self._board = board
        self._corners = shapes_of(board)
        rows, columns = self._size()
        self._grown = rows * columns
        # A step holds the board before it, the way back, the board after it and the way forth. A way
        # tells for each row, and for each column, of the board that comes its number in the other one.
        self._done = []
        self._undone = []

    def put(self, row, column, amount):
        """Give a cell another amount."""
        rows, columns = self._size()
        _check_row(row, rows)
        _check_column(column, columns)
        _check_amounts((amount,), 1)
        changed = _replaced(self._board[row - 1], column, amount)
        board = _replaced(self._board, row, changed)
        way = (_all_stay(rows), _all_stay(columns))
        self._change(board, way, way)

    def insert_row(self, at, amounts):
        """Put in a row, which becomes row `at`."""
        rows, columns = self._size()
        _check_row(at, rows + 1)
        _check_amounts(amounts, columns)
        _check_size(rows + 1)
        stay = _all_stay(columns)
        board = _with_line(self._board, at, amounts)
        self._change(board, (_one_comes(rows, at), stay), (_one_goes(rows + 1, at), stay))

    def remove_row(self, at):
        """Remove a row."""
        rows, columns = self._size()
        _check_row(at, rows)
        _check_size(rows - 1)
        stay = _all_stay(columns)
        board = _without_line(self._board, at)
        self._change(board, (_one_goes(rows, at), stay), (_one_comes(rows - 1, at), stay))

    def insert_column(self, at, amounts):
        """Put in a column, which becomes column `at`."""
        rows, columns = self._size()
        _check_column(at, columns + 1)
        _check_amounts(amounts, rows)
        _check_size(columns + 1)
        stay = _all_stay(rows)
        board = tuple([_with_line(row, at, amount) for row, amount in zip(self._board, amounts)])
        self._change(board, (stay, _one_comes(columns, at)), (stay, _one_goes(columns + 1, at)))

    def remove_column(self, at):
        """Remove a column."""
        rows, columns = self._size()
        _check_column(at, columns)
        _check_size(columns - 1)
        stay = _all_stay(rows)
        board = tuple([_without_line(row, at) for row in self._board])
        self._change(board, (stay, _one_goes(columns, at)), (stay, _one_comes(columns - 1, at)))

    def undo(self):
        """Take back the last change; return False if there is none."""
        if len(self._done) == 0:
            return False
        step = self._done.pop()
        self._undone.append(step)
        self._become(step[0], step[1])
        return True

    def redo(self):
        """Make the change again that was undone last; return False if there is none."""
        if len(self._undone) == 0:
            return False
        step = self._undone.pop()
        self._done.append(step)
        self._become(step[2], step[3])
        return True

    def board(self):
        """Return the current board."""
        return self._board

    def shape(self, row, column):
        """Return the shape at a corner."""
        rows, columns = self._size()
        if row < 0 or row > rows or column < 0 or column > columns:
            raise NoSuchCorner(f"there is no corner ({row}, {column})")
        return self._corners[row][column]

    def most(self, count, row, column):
        """Return the sum of the first `count` parts of the shape at a corner."""
        # A slice would count a number below 0 from the end.
        return sum(self.shape(row, column)[:max(count, 0)])

    def grown(self):
        """Return how many squares the last change grew again."""
        return self._grown

    def changes(self):
        """Return how many changes can be undone."""
        return len(self._done)

    def undone(self):
        """Return how many changes can be redone."""
        return len(self._undone)

    def _size(self):
        # The corners tell it for a board without rows, too.
        return len(self._corners) - 1, len(self._corners[0]) - 1

    def _change(self, board, forth, back):
        if len(self._done) >= MOST_CHANGES:
            raise TooManyChanges(f"there are {MOST_CHANGES} changes that can be undone")
        self._done.append((self._board, back, board, forth))
        self._undone = []
        self._become(board, forth)

    def _become(self, board, way):
        rows, columns = way
        corners = [[()] * (len(columns) + 1)]
        grown = 0
        for i, amounts in enumerate(board):
            row, more = self._row_below(corners[i], amounts, rows[i], columns)
            corners.append(row)
            grown += more
        self._board = board
        self._corners = corners
        self._grown = grown

    def _row_below(self, above, amounts, old_row, old_columns):
        row = [()]
        grown = 0
        for j, amount in enumerate(amounts):
            square = (amount, above[j], above[j + 1], row[j])
            if square == self._square(old_row, old_columns[j]):
                row.append(self._corners[old_row][old_columns[j]])
            else:
                # Corners of a board are strips over one another, so the rule need not ask for it.
                row.append(local_rule(above[j], above[j + 1], row[j], amount))
                grown += 1
        return row, grown

    def _square(self, row, column):
        """Return what the square of a cell is grown from, or None if there is no such cell."""
        if row == 0 or column == 0:
            return None
        above = self._corners[row - 1]
        amount = self._board[row - 1][column - 1]
        return amount, above[column - 1], above[column], self._corners[row][column - 1]


def _check_row(row, last):
    if row < 1 or row > last:
        raise NoSuchRow(f"there is no row {row}")


def _check_column(column, last):
    if column < 1 or column > last:
        raise NoSuchColumn(f"there is no column {column}")


def _check_amounts(amounts, needed):
    if len(amounts) != needed:
        raise WrongAmounts(f"{needed} amounts are needed, not {len(amounts)}")
    for amount in amounts:
        if amount < 0 or amount > GREATEST_AMOUNT:
            raise WrongAmounts(f"an amount is {amount}")


def _check_size(many):
    if many < 1 or many > MOST_LINES:
        raise WrongSize(f"there would be {many} rows or columns")


def _replaced(lines, at, line):
    return lines[:at - 1] + (line,) + lines[at:]


def _with_line(lines, at, line):
    return lines[:at - 1] + (line,) + lines[at - 1:]


def _without_line(lines, at):
    return lines[:at - 1] + lines[at:]


def _all_stay(many):
    return tuple(range(1, many + 1))


def _one_comes(many, at):
    # The number 0 says that the line was not there.
    return _with_line(_all_stay(many), at, 0)


def _one_goes(many, at):
    return _without_line(_all_stay(many), at)

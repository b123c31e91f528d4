"""Tableaux, their chains, inserting and taking out, and words (points 15 to 20)."""

from walkhands.errors import LetterTooGreat, NoSuchRow, NotAPair, TooManyLetters
from walkhands.shapes import part

GREATEST_LETTER = 60
MOST_LETTERS = 200
LONGEST_WORD = 60


def is_tableau(rows):
    """Return True if a tuple of tuples of integers is a tableau as it may be passed."""
    if _size(rows) > MOST_LETTERS:
        return False
    for r, row in enumerate(rows):
        if not _is_row(row):
            return False
        if r > 0 and not _fits_below(row, rows[r - 1]):
            return False
    return True


def _size(rows):
    return sum([len(row) for row in rows])


def _shape(tableau):
    return tuple([len(row) for row in tableau])


def _is_row(row):
    if len(row) == 0:
        return False
    least = 1
    for letter in row:
        if letter < least or letter > GREATEST_LETTER:
            return False
        least = letter
    return True


def _fits_below(row, above):
    if len(row) > len(above):
        return False
    for letter, over in zip(row, above):
        if letter <= over:
            return False
    return True


def chain_of(tableau, letters):
    """Return the chain of a tableau, none of whose letters is above `letters`."""
    for row in tableau:
        for letter in row:
            if letter > letters:
                raise LetterTooGreat(f"the letter {letter} is above {letters}")
    return [_shape_up_to(tableau, t) for t in range(letters + 1)]


def _shape_up_to(tableau, greatest):
    lengths = [len([letter for letter in row if letter <= greatest]) for row in tableau]
    return tuple([length for length in lengths if length > 0])


def tableau_of(chain):
    """Return the tableau of a chain."""
    last = chain[-1]
    if sum(last) > MOST_LETTERS:
        raise TooManyLetters(f"there would be {sum(last)} letters")
    return tuple([_row_of_chain(chain, r) for r in range(1, len(last) + 1)])


def _row_of_chain(chain, r):
    row = []
    for t in range(1, len(chain)):
        row.extend([t] * (part(chain[t], r) - part(chain[t - 1], r)))
    return tuple(row)


def insert(tableau, letter):
    """Return the new tableau and the number of the row that is one longer."""
    if _size(tableau) >= MOST_LETTERS:
        raise TooManyLetters(f"there are {MOST_LETTERS} letters already")
    return _inserted(tableau, letter)


def _inserted(tableau, letter):
    rows = list(tableau)
    moving = letter
    for r, row in enumerate(tableau):
        at = _first_greater(row, moving)
        rows[r] = row[:at] + (moving,) + row[at + 1:]
        if at == len(row):
            return tuple(rows), r + 1
        moving = row[at]
    rows.append((moving,))
    return tuple(rows), len(rows)


def _first_greater(row, letter):
    at = 0
    while at < len(row) and row[at] <= letter:
        at += 1
    return at


def take_out(tableau, row):
    """Return the new tableau and the letter that is taken out of it."""
    if row < 1 or row > len(tableau):
        raise NoSuchRow(f"there is no row {row}")
    if row < len(tableau) and len(tableau[row - 1]) <= len(tableau[row]):
        raise NoSuchRow(f"row {row} is no longer than the next one")
    rows = list(tableau)
    moving = rows[row - 1][-1]
    rows[row - 1] = rows[row - 1][:-1]
    for r in range(row - 2, -1, -1):
        above = rows[r]
        at = _last_less(above, moving)
        rows[r] = above[:at] + (moving,) + above[at + 1:]
        moving = above[at]
    return tuple([held for held in rows if len(held) > 0]), moving


def _last_less(row, letter):
    # The letter stood below this row, so there is one that is less.
    at = len(row) - 1
    while row[at] >= letter:
        at -= 1
    return at


def pair_of(word):
    """Return the pair of a word."""
    first = ()
    second = ()
    for k, letter in enumerate(word):
        # A word may be somewhat too long, which is no error; so the limit of insert is not asked for.
        first, row = _inserted(first, letter)
        second = _one_longer(second, row, k + 1)
    return first, second


def _one_longer(tableau, row, number):
    held = tableau[row - 1] if row <= len(tableau) else ()
    return tableau[:row - 1] + (held + (number,),) + tableau[row:]


def word_of(first, second):
    """Return the word whose pair the two tableaux are."""
    many = _size(second)
    row_of = {number: r + 1 for r, row in enumerate(second) for number in row}
    if many > LONGEST_WORD:
        raise NotAPair(f"there are {many} letters")
    if sorted(row_of) != list(range(1, many + 1)):
        raise NotAPair(f"the second tableau does not have each number from 1 to {many} once")
    if _shape(first) != _shape(second):
        raise NotAPair("the two tableaux have different shapes")
    word = []
    left = first
    for number in range(many, 0, -1):
        # The greatest number that is left tells which row became longer last.
        left, letter = take_out(left, row_of[number])
        word.append(letter)
    return word[::-1]


def word_of_board(board, rows):
    """Return the word of the first rows of a board."""
    word = []
    # A slice would count a number below 0 from the end.
    for amounts in board[:max(rows, 0)]:
        for j, amount in enumerate(amounts):
            word.extend([j + 1] * amount)
    return word

"""Lists of all tableaux with a content, and of all boards with given sums (points 32 and 33)."""

from walkhands.errors import LetterTooGreat


def content_of(tableau, letters):
    """Return how often the tableau has each of the letters from 1 to `letters`."""
    counts = [0] * letters
    for row in tableau:
        for letter in row:
            if letter > letters:
                raise LetterTooGreat(f"the letter {letter} is above {letters}")
            counts[letter - 1] += 1
    return tuple(counts)


def tableaux_of(shape, content):
    """Return all tableaux of the shape with the content, in ascending order."""
    if sum(shape) != sum(content):
        return []
    found = [((),) * len(shape)]
    for k, many in enumerate(content):
        found = [further for rows in found for further in _with_letter(rows, shape, k + 1, many)]
    # As many letters as the shape has places were put in, so no row is too short.
    return sorted(found)


def _with_letter(rows, shape, letter, many):
    """Return all ways to lengthen the rows by this letter, which comes in so many times."""
    room = []
    for r, row in enumerate(rows):
        # Above a letter stands one that was put in before it.
        end = min(shape[r], len(rows[r - 1])) if r > 0 else shape[r]
        room.append(end - len(row))
    return [
        tuple([held + (letter,) * more for held, more in zip(rows, shares)])
        for shares in _shared_out(many, room)
    ]


def _shared_out(total, room):
    """Return all tuples with this sum whose integers are at most those of `room`, in ascending order."""
    found = [((), total)]
    for most in room:
        found = [
            ((*shares, share), left - share)
            for shares, left in found
            for share in range(min(left, most) + 1)
        ]
    return [shares for shares, left in found if left == 0]


def boards_of(rows, columns):
    """Return all boards with these sums of their rows and of their columns, in ascending order."""
    if sum(rows) != sum(columns):
        return []
    found = [((), columns)]
    for total in rows:
        found = [
            ((*board, amounts), tuple([most - amount for most, amount in zip(left, amounts)]))
            for board, left in found
            for amounts in _shared_out(total, left)
        ]
    # The sums are the same in all, so nothing is left of any column.
    return sorted([board for board, left in found])

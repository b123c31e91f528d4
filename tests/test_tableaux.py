"""Points 15 to 20: tableaux, their chains, inserting and taking out, words and pairs."""

import bisect
import copy
import itertools
import random
import unittest

from helpers import boards_with, chains_to, mixed_board, shapes_in_box
from walkhands.corners import shapes_of
from walkhands.errors import LetterTooGreat, NoSuchRow, NotAPair, TooManyLetters, WalkhandsError
from walkhands.shapes import is_chain
from walkhands.tableaux import (
    chain_of, insert, is_tableau, pair_of, tableau_of, take_out, word_of, word_of_board,
)


def is_tableau_by_the_words(rows):
    return (
        all(rows)
        and all(1 <= letter <= 60 for row in rows for letter in row)
        and all(len(low) <= len(high) for high, low in zip(rows, rows[1:]))
        and all(row[k] <= row[k + 1] for row in rows for k in range(len(row) - 1))
        and all(low[k] > high[k] for high, low in zip(rows, rows[1:]) for k in range(len(low)))
        and sum(map(len, rows)) <= 200
    )


def small_tableaux(letters, size):
    """All tableaux with at most so many letters, none of them above `letters`."""
    rows = [
        row
        for length in range(1, size + 1)
        for row in itertools.combinations_with_replacement(range(1, letters + 1), length)
    ]
    found, newest = [()], [()]
    while newest:
        newest = [
            held + (row,)
            for held in newest
            for row in rows
            if sum(map(len, held)) + len(row) <= size and is_tableau_by_the_words(held + (row,))
        ]
        found += newest
    return found


SMALL = small_tableaux(4, 5)


def inserted_by_the_words(tableau, letter):
    rows = [list(row) for row in tableau]
    for r, row in enumerate(rows):
        at = bisect.bisect_right(row, letter)
        if at == len(row):
            row.append(letter)
            return tuple(map(tuple, rows)), r + 1
        row[at], letter = letter, row[at]
    return tuple(map(tuple, rows)) + ((letter,),), len(rows) + 1


def shape(tableau):
    return tuple(map(len, tableau))


def size(tableau):
    return sum(map(len, tableau))


def all_words(letters, length):
    return [list(word) for word in itertools.product(range(1, letters + 1), repeat=length)]


def mixed_words():
    words = []
    for seed in range(40):
        chance = random.Random(seed)
        words.append([chance.randint(1, chance.choice((2, 9, 60))) for _ in range(chance.randint(0, 60))])
    return words


def block(letters, width=10):
    """A tableau with so many letters in rows of the given width."""
    counts = [width] * (letters // width) + [letters % width] * (letters % width > 0)
    return tuple((r,) * count for r, count in enumerate(counts, 1))


class TableauTest(unittest.TestCase):
    def assert_raises(self, error, function, *arguments):
        kept = copy.deepcopy(arguments)
        with self.subTest(arguments=arguments), self.assertRaises(WalkhandsError) as caught:
            function(*arguments)
        self.assertIs(type(caught.exception), error)
        self.assertEqual(arguments, kept)

    def assert_tuples(self, tableau):
        self.assertIs(type(tableau), tuple)
        for row in tableau:
            self.assertIs(type(row), tuple)
            for letter in row:
                self.assertIs(type(letter), int)


class TestIsTableau(unittest.TestCase):
    def check(self, rows, expected):
        with self.subTest(rows=rows):
            self.assertIs(is_tableau(rows), expected)

    def test_ordinary_tableaux(self):
        for rows in (((1,),), ((1, 1, 3), (2,)), ((1, 2), (3, 4)), ((5, 5, 7, 9), (6, 8), (60,)), ((3,), (4,))):
            self.check(rows, True)

    def test_no_row(self):
        self.check((), True)

    def test_no_row_is_empty(self):
        for rows in (((),), ((1,), ()), ((), ()), ((1,), (), (2,)), ((), (1,))):
            self.check(rows, False)

    def test_no_row_is_longer_than_the_one_before_it(self):
        self.check(((1, 1), (2, 2)), True)
        self.check(((1,), (2, 2)), False)
        self.check(((1, 1, 1), (2,), (3, 3)), False)

    def test_rows_do_not_descend(self):
        self.check(((1, 1, 2, 2),), True)
        self.check(((1, 2, 1),), False)
        self.check(((2, 1),), False)
        self.check(((1, 1), (4, 3)), False)

    def test_letters_are_greater_than_the_ones_above_them(self):
        self.check(((1, 1), (1,)), False)
        self.check(((2, 2), (1,)), False)
        self.check(((1, 3), (2, 3)), False)
        self.check(((1, 3), (2, 4)), True)
        self.check(((1,), (2,), (2,)), False)

    def test_letters_from_1_to_60(self):
        for letter, expected in ((-1, False), (0, False), (1, True), (60, True), (61, False)):
            self.check(((letter,),), expected)
        self.check(((1, 61),), False)
        self.check(((0, 1),), False)
        self.check(((1,), (61,)), False)

    def test_at_most_200_letters(self):
        for letters, expected in ((199, True), (200, True), (201, False), (210, False)):
            self.check(((1,) * letters,), expected)
            self.check(block(letters), expected)
        self.check(tuple((r, r, r) for r in range(1, 61)), True)
        self.check(tuple((r,) * 4 for r in range(1, 51)), True)
        self.check(tuple((r,) * 4 for r in range(1, 52)), False)

    def test_sixty_rows(self):
        self.check(tuple((r,) for r in range(1, 61)), True)
        self.check(tuple((r,) for r in range(1, 62)), False)

    def test_against_the_words(self):
        rows = [row for length in range(4) for row in itertools.product(range(4), repeat=length)]
        for first in rows:
            self.check((first,), is_tableau_by_the_words((first,)))
            for second in rows:
                self.check((first, second), is_tableau_by_the_words((first, second)))
        short = [row for row in rows if len(row) < 3]
        for three in itertools.product(short, repeat=3):
            self.check(three, is_tableau_by_the_words(three))


class TestChains(TableauTest):
    def test_small_tableaux(self):
        self.assertEqual(chain_of(((1, 1, 3), (2,)), 3), [(), (2,), (2, 1), (3, 1)])
        self.assertEqual(chain_of(((1, 1, 3), (2,)), 5), [(), (2,), (2, 1), (3, 1), (3, 1), (3, 1)])
        self.assertEqual(chain_of(((2,), (4,)), 4), [(), (), (1,), (1,), (1, 1)])
        self.assertEqual(tableau_of([(), (2,), (2, 1), (3, 1)]), ((1, 1, 3), (2,)))
        self.assertEqual(tableau_of([(), (), (1,), (1,), (1, 1)]), ((2,), (4,)))

    def test_no_letters(self):
        self.assertEqual(chain_of((), 0), [()])
        self.assertEqual(chain_of((), 3), [(), (), (), ()])
        self.assertEqual(tableau_of([()]), ())
        self.assertEqual(tableau_of([(), ()]), ())

    def test_exactly_the_greatest_letter_and_less(self):
        tableau = ((1, 2, 5), (3, 4))
        self.assertEqual(chain_of(tableau, 5), [(), (1,), (2,), (2, 1), (2, 2), (3, 2)])
        for letters in (4, 3, 1, 0):
            self.assert_raises(LetterTooGreat, chain_of, tableau, letters)
        self.assert_raises(LetterTooGreat, chain_of, ((1, 2), (6,)), 5)
        self.assert_raises(LetterTooGreat, chain_of, ((1, 60),), 59)
        self.assert_raises(LetterTooGreat, chain_of, ((1,),), 0)

    def test_sixty_letters(self):
        column = tuple((r,) for r in range(1, 61))
        chain = chain_of(column, 60)
        self.assertEqual(chain, [(1,) * t for t in range(61)])
        self.assertEqual(tableau_of(chain), column)
        self.assertEqual(chain_of(((60,),), 60), [()] * 60 + [(1,)])
        self.assertEqual(tableau_of([()] * 60 + [(1,)]), ((60,),))

    def test_chains_and_tableaux_correspond(self):
        for tableau in SMALL:
            least = max((letter for row in tableau for letter in row), default=0)
            for letters in (least, least + 1, 7):
                chain = chain_of(tableau, letters)
                self.assertIs(type(chain), list)
                self.assertTrue(is_chain(chain))
                self.assertEqual(len(chain), letters + 1)
                self.assertEqual(tableau_of(chain), tableau)
                for t, found in enumerate(chain):
                    held = [sum(letter <= t for letter in row) for row in tableau]
                    self.assertEqual(found, tuple(length for length in held if length))

    def test_each_chain_is_the_chain_of_its_tableau(self):
        shapes = shapes_in_box(3, 3)
        for end in shapes:
            for steps in range(4):
                for chain in chains_to(end, steps, shapes):
                    kept = list(chain)
                    tableau = tableau_of(chain)
                    self.assertEqual(chain, kept)
                    self.assertTrue(is_tableau(tableau))
                    self.assert_tuples(tableau)
                    self.assertEqual(chain_of(tableau, steps), chain)

    def test_chains_of_199_200_and_201_letters(self):
        self.assertEqual(tableau_of([(), (199,)]), ((1,) * 199,))
        self.assertEqual(tableau_of([(), (200,)]), ((1,) * 200,))
        self.assertEqual(tableau_of([(), (150,), (150, 50)]), ((1,) * 150, (2,) * 50))
        self.assert_raises(TooManyLetters, tableau_of, [(), (201,)])
        self.assert_raises(TooManyLetters, tableau_of, [(), (150,), (150, 51)])
        self.assert_raises(TooManyLetters, tableau_of, [(), (1000000,)])
        self.assert_raises(TooManyLetters, tableau_of, [(), (4,), (1000000, 4)])
        for letters in (199, 200):
            tableau = block(letters)
            self.assertEqual(tableau_of(chain_of(tableau, 20)), tableau)

    def test_somewhat_beyond_the_limits(self):
        self.assertEqual(chain_of(((61, 62),), 62), [()] * 61 + [(1,), (2,)])
        self.assertEqual(tableau_of([()] * 61 + [(1,), (2,)]), ((61, 62),))
        self.assertEqual(chain_of(((1,) * 201,), 1), [(), (201,)])

    def test_the_list_is_new_at_each_call(self):
        tableau = ((1, 1, 3), (2,))
        chain = chain_of(tableau, 3)
        chain.clear()
        self.assertEqual(chain_of(tableau, 3), [(), (2,), (2, 1), (3, 1)])


class TestInsert(TableauTest):
    def test_the_example_of_the_document(self):
        self.assertEqual(insert(((1, 1, 3), (2,)), 1), (((1, 1, 1), (2, 3)), 2))

    def test_ordinary_letters(self):
        self.assertEqual(insert((), 5), (((5,),), 1))
        self.assertEqual(insert(((1, 2, 2),), 2), (((1, 2, 2, 2),), 1))
        self.assertEqual(insert(((1, 2, 2),), 1), (((1, 1, 2), (2,)), 2))
        self.assertEqual(insert(((2, 2, 4), (3, 5)), 1), (((1, 2, 4), (2, 5), (3,)), 3))
        self.assertEqual(insert(((2,), (3,), (4,)), 1), (((1,), (2,), (3,), (4,)), 4))
        self.assertEqual(insert(((1,), (2,)), 60), (((1, 60), (2,)), 1))

    def test_against_the_words(self):
        for tableau in SMALL:
            for letter in range(1, 6):
                result = insert(tableau, letter)
                self.assertEqual(result, inserted_by_the_words(tableau, letter))
                self.assertIs(type(result), tuple)
                self.assert_tuples(result[0])
                self.assertTrue(is_tableau(result[0]))

    def test_an_inserted_letter_is_taken_out_of_the_row_that_became_longer(self):
        for tableau in SMALL:
            for letter in range(1, 6):
                longer, row = insert(tableau, letter)
                before, after = shape(tableau) + (0,), shape(longer) + (0,)
                self.assertEqual(after[row - 1], before[row - 1] + 1)
                self.assertEqual(size(longer), size(tableau) + 1)
                self.assertEqual(take_out(longer, row), (tableau, letter))

    def test_199_200_and_201_letters(self):
        self.assertEqual(insert(((1,) * 199,), 1), (((1,) * 200,), 1))
        self.assertEqual(insert(block(199), 20), inserted_by_the_words(block(199), 20))
        self.assertEqual(insert(((2,) * 100, (3,) * 99), 1), (((1,) + (2,) * 99, (2,) + (3,) * 98, (3,)), 3))
        for letters in (200, 201):
            self.assert_raises(TooManyLetters, insert, ((1,) * letters,), 1)
            self.assert_raises(TooManyLetters, insert, block(letters), 60)

    def test_somewhat_beyond_the_limits(self):
        self.assertEqual(insert(((1,),), 61), (((1, 61),), 1))
        self.assertEqual(insert(((1,),), 0), (((0,), (1,)), 2))


class TestTakeOut(TableauTest):
    def test_ordinary_rows(self):
        self.assertEqual(take_out(((1, 1, 1), (2, 3)), 2), (((1, 1, 3), (2,)), 1))
        self.assertEqual(take_out(((1, 1, 1), (2, 3)), 1), (((1, 1), (2, 3)), 1))
        self.assertEqual(take_out(((5,),), 1), ((), 5))
        self.assertEqual(take_out(((1, 2, 4), (2, 5), (3,)), 3), (((2, 2, 4), (3, 5)), 1))

    def test_a_row_that_becomes_empty_is_left_out(self):
        self.assertEqual(take_out(((1,), (2,)), 2), (((2,),), 1))
        self.assertEqual(take_out(((1, 3), (2,)), 2), (((2, 3),), 1))

    def test_the_letter_inserted_again_gives_the_tableau_back(self):
        for tableau in SMALL:
            lengths = shape(tableau) + (0,)
            for row in range(1, len(tableau) + 1):
                if lengths[row - 1] == lengths[row]:
                    self.assert_raises(NoSuchRow, take_out, tableau, row)
                    continue
                result = take_out(tableau, row)
                self.assertIs(type(result), tuple)
                left, letter = result
                self.assert_tuples(left)
                self.assertTrue(is_tableau(left))
                self.assertEqual(size(left), size(tableau) - 1)
                self.assertEqual(insert(left, letter), (tableau, row))

    def test_rows_that_do_not_exist(self):
        for row in (0, -1, -2, 1, 2):
            self.assert_raises(NoSuchRow, take_out, (), row)
        for row in (0, -1, -2, -3, 3, 4):
            self.assert_raises(NoSuchRow, take_out, ((1, 1, 3), (2,)), row)

    def test_rows_that_are_no_longer_than_the_next_one(self):
        tableau = ((1, 1), (2, 2), (3,), (4,))
        for row in (1, 3):
            self.assert_raises(NoSuchRow, take_out, tableau, row)
        self.assertEqual(take_out(tableau, 2), (((1, 2), (2,), (3,), (4,)), 1))
        self.assertEqual(take_out(tableau, 4), (((1, 2), (2, 3), (4,)), 1))

    def test_199_200_and_201_letters(self):
        for letters in (199, 200, 201):
            self.assertEqual(take_out(((1,) * letters,), 1), (((1,) * (letters - 1),), 1))
            left, letter = take_out(block(letters), len(block(letters)))
            self.assertEqual(inserted_by_the_words(left, letter), (block(letters), len(block(letters))))


class TestPairs(TableauTest):
    def check(self, word):
        kept = list(word)
        pair = pair_of(word)
        self.assertEqual(word, kept)
        self.assertIs(type(pair), tuple)
        self.assertEqual(len(pair), 2)
        first, second = pair
        expected, grown = (), [0] * 61
        for s, letter in enumerate(word, 1):
            expected, row = inserted_by_the_words(expected, letter)
            grown[row - 1] += 1
            self.assertEqual(second[row - 1][grown[row - 1] - 1], s)
        self.assertEqual(first, expected)
        self.assertEqual(shape(second), shape(first))
        self.assertTrue(is_tableau(second))
        for tableau in pair:
            self.assert_tuples(tableau)
        back = word_of(first, second)
        self.assertIs(type(back), list)
        self.assertEqual(back, word)

    def test_small_words(self):
        self.assertEqual(pair_of([]), ((), ()))
        self.assertEqual(pair_of([7]), (((7,),), ((1,),)))
        self.assertEqual(pair_of([2, 1]), (((1,), (2,)), ((1,), (2,))))
        self.assertEqual(pair_of([1, 3, 2, 1]), (((1, 1), (2,), (3,)), ((1, 2), (3,), (4,))))
        self.assertEqual(pair_of([3, 1, 1, 2]), (((1, 1, 2), (3,)), ((1, 3, 4), (2,))))
        self.assertEqual(word_of((), ()), [])
        self.assertEqual(word_of(((1, 1, 2), (3,)), ((1, 3, 4), (2,))), [3, 1, 1, 2])

    def test_all_short_words(self):
        for length in range(6):
            for word in all_words(3, length):
                self.check(word)

    def test_mixed_words(self):
        for word in mixed_words():
            self.check(word)

    def test_words_of_60_letters(self):
        for word in ([5] * 60, list(range(1, 61)), list(range(60, 0, -1)), [1 + k * 7 % 60 for k in range(60)]):
            self.check(word)

    def test_each_pair_is_the_pair_of_its_word(self):
        standard = [
            tableau
            for tableau in small_tableaux(4, 4)
            if sorted(letter for row in tableau for letter in row) == list(range(1, size(tableau) + 1))
        ]
        found = []
        for second in standard:
            for first in SMALL:
                if shape(first) == shape(second):
                    word = word_of(first, second)
                    self.assertEqual(pair_of(word), (first, second))
                    found.append(word)
        self.assertEqual(sorted(found), sorted(word for length in range(5) for word in all_words(4, length)))

    def test_numbers_doubled_or_left_out(self):
        for first, second in (
            (((1, 1),), ((1, 1),)),
            (((1, 1),), ((1, 3),)),
            (((1, 1),), ((2, 3),)),
            (((1,),), ((2,),)),
            (((1, 1), (2,)), ((1, 2), (2,))),
            (((1, 1), (2,)), ((1, 2), (4,))),
            (((1, 1, 1), (2,)), ((1, 3, 3), (2,))),
        ):
            self.assert_raises(NotAPair, word_of, first, second)

    def test_different_shapes(self):
        for first, second in (
            ((), ((1,),)),
            (((1,),), ()),
            (((1, 1),), ((1,), (2,))),
            (((1,), (2,)), ((1, 2),)),
            (((1, 1), (2,)), ((1, 2), (3, 4))),
            (((1, 1), (2, 2)), ((1, 2), (3,))),
            (((1, 1, 1),), ((1, 2),)),
            (((1, 1), (2,)), ((1, 3, 4), (2,))),
        ):
            self.assert_raises(NotAPair, word_of, first, second)

    def test_more_than_60_letters(self):
        numbers = (tuple(range(1, 61)),)
        self.assertEqual(word_of(((5,) * 60,), numbers), [5] * 60)
        for many in (61, 62, 70):
            self.assert_raises(NotAPair, word_of, ((5,) * many,), (tuple(range(1, many + 1)),))
            self.assert_raises(NotAPair, word_of, *pair_of([1, 2, 1, 1] * 15 + [3] * (many - 60)))

    def test_somewhat_beyond_the_limits(self):
        first, second = pair_of([61] + [2] * 60)
        self.assertEqual((shape(first), shape(second)), ((60, 1), (60, 1)))
        self.assertEqual(pair_of([1] * 201), (((1,) * 201,), (tuple(range(1, 202)),)))
        self.assertEqual(word_of(*pair_of([61, 3, 61])), [61, 3, 61])

    def test_the_list_is_new_at_each_call(self):
        first, second = pair_of([3, 1, 1, 2])
        word_of(first, second).clear()
        self.assertEqual(word_of(first, second), [3, 1, 1, 2])


class TestWordOfBoard(unittest.TestCase):
    def test_small_boards(self):
        board = ((1, 2), (3, 0))
        self.assertEqual(word_of_board(board, 0), [])
        self.assertEqual(word_of_board(board, 1), [1, 2, 2])
        self.assertEqual(word_of_board(board, 2), [1, 2, 2, 1, 1, 1])
        self.assertEqual(word_of_board(((0, 0, 2, 1),), 1), [3, 3, 4])
        self.assertEqual(word_of_board(((0,) * 8,) * 8, 8), [])
        self.assertEqual(word_of_board(((1,) * 8,) * 8, 8), list(range(1, 9)) * 8)

    def test_great_amounts(self):
        self.assertEqual(word_of_board(((0, 1000), (1, 1)), 1), [2] * 1000)
        word = word_of_board(((1000,) * 8,) * 8, 8)
        self.assertEqual(len(word), 64000)
        self.assertEqual(word[:8000], sorted(word[:8000]))

    def check(self, board):
        for rows in range(len(board) + 1):
            word = word_of_board(board, rows)
            self.assertIs(type(word), list)
            tableau = ()
            for letter in word:
                tableau, _ = inserted_by_the_words(tableau, letter)
            if len(word) <= 60:
                self.assertEqual(pair_of(word)[0], tableau)
            chain = chain_of(tableau, len(board[0]))
            self.assertEqual(chain, shapes_of(board)[rows])

    def test_the_shapes_are_those_of_the_corners(self):
        for board in boards_with(2, 2, (0, 1, 3)) + boards_with(2, 3, (0, 2)) + boards_with(3, 2, (0, 1)):
            self.check(board)
        for seed in range(1, 6):
            for rows, columns in ((1, 8), (8, 1), (3, 5), (6, 4), (8, 8)):
                self.check(mixed_board(rows, columns, seed, 3))

    def test_the_list_is_new_at_each_call(self):
        board = ((1, 2), (3, 0))
        word_of_board(board, 2).clear()
        self.assertEqual(word_of_board(board, 2), [1, 2, 2, 1, 1, 1])

    def test_somewhat_beyond_the_limits(self):
        board = ((1, 2), (3, 0))
        self.assertEqual(word_of_board(board, 3), [1, 2, 2, 1, 1, 1])
        self.assertEqual(word_of_board(board, -1), [])
        self.assertEqual(word_of_board(((1001,),), 1), [1] * 1001)


if __name__ == "__main__":
    unittest.main()

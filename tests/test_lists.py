"""Points 32 and 33: contents, all tableaux with a content, and all boards with given sums."""

import functools
import itertools
import unittest

from helpers import shapes_in_box
from walkhands.errors import LetterTooGreat
from walkhands.lists import boards_of, content_of, tableaux_of
from walkhands.tableaux import is_tableau, pair_of, word_of_board


@functools.lru_cache(maxsize=None)
def shapes_of_size(size):
    return [shape for shape in shapes_in_box(size, size) if sum(shape) == size]


def tuples_with_sum(length, total):
    return [held for held in itertools.product(range(total + 1), repeat=length) if sum(held) == total]


def tableaux_by_trying(shape, letters):
    """All tableaux of the shape with letters up to the given one, by their contents."""
    found = {}
    for flat in itertools.product(range(1, letters + 1), repeat=sum(shape)):
        left = list(flat)
        rows = tuple(tuple(left.pop(0) for _ in range(length)) for length in shape)
        if is_tableau(rows):
            content = tuple(flat.count(letter) for letter in range(1, letters + 1))
            found.setdefault(content, []).append(rows)
    return found


def boards_by_trying(size, greatest):
    """All boards of this size with amounts up to the given one, by the sums of their rows and columns."""
    found = {}
    rows, columns = size
    for flat in itertools.product(range(greatest + 1), repeat=rows * columns):
        board = tuple(flat[i * columns:(i + 1) * columns] for i in range(rows))
        found.setdefault((row_sums(board), column_sums(board)), []).append(board)
    return found


def row_sums(board):
    return tuple(sum(row) for row in board)


def column_sums(board):
    return tuple(map(sum, zip(*board)))


class TestContentOf(unittest.TestCase):
    def test_ordinary_tableaux(self):
        self.assertEqual(content_of(((1, 1, 3), (2,)), 3), (2, 1, 1))
        self.assertEqual(content_of(((1, 1, 3), (2,)), 5), (2, 1, 1, 0, 0))
        self.assertEqual(content_of(((2, 2), (4, 4)), 4), (0, 2, 0, 2))
        self.assertEqual(content_of(((60,),), 60), (0,) * 59 + (1,))

    def test_no_letters(self):
        self.assertEqual(content_of((), 0), ())
        with self.assertRaises(LetterTooGreat):
            content_of(((1,),), 0)

    def test_the_tableau_of_no_row(self):
        for letters in (0, 1, 2, 60):
            self.assertEqual(content_of((), letters), (0,) * letters)

    def test_the_greatest_letter_and_one_less(self):
        for tableau, greatest in (
            (((1,),), 1), (((60,),), 60), (((1, 1, 3), (2,)), 3), (((1, 2), (7,)), 7), (((1, 5), (2,), (3,)), 5),
        ):
            found = content_of(tableau, greatest)
            self.assertEqual(len(found), greatest)
            self.assertEqual(sum(found), sum(map(len, tableau)))
            for letters in {greatest - 1, 0}:
                with self.subTest(tableau=tableau, letters=letters):
                    with self.assertRaises(LetterTooGreat) as caught:
                        content_of(tableau, letters)
                    self.assertIs(type(caught.exception), LetterTooGreat)

    def test_how_often_each_letter_stands_in_it(self):
        for shape in shapes_of_size(5):
            for content, tableaux in tableaux_by_trying(shape, 3).items():
                for tableau in tableaux:
                    self.assertEqual(content_of(tableau, 3), content)
                    self.assertEqual(content_of(tableau, 4), content + (0,))

    def test_200_letters(self):
        self.assertEqual(content_of(((7,) * 200,), 8), (0,) * 6 + (200, 0))
        tableau = tuple((k,) * 3 for k in range(1, 61))
        self.assertEqual(content_of(tableau, 60), (3,) * 60)

    def test_kinds_of_results(self):
        found = content_of(((1, 1, 3), (2,)), 3)
        self.assertIs(type(found), tuple)
        for many in found:
            self.assertIs(type(many), int)

    def test_somewhat_beyond_the_limits(self):
        self.assertEqual(content_of(((61,),), 62), (0,) * 60 + (1, 0))
        self.assertEqual(content_of(((1,) * 201,), 1), (201,))


class TestTableauxOf(unittest.TestCase):
    def test_small_shapes(self):
        self.assertEqual(tableaux_of((2, 1), (1, 1, 1)), [((1, 2), (3,)), ((1, 3), (2,))])
        self.assertEqual(tableaux_of((2, 1), (2, 1)), [((1, 1), (2,))])
        self.assertEqual(tableaux_of((2, 1), (0, 1, 2)), [((2, 3), (3,))])
        self.assertEqual(tableaux_of((2, 1), (3,)), [])
        self.assertEqual(tableaux_of((1, 1), (0, 2)), [])
        self.assertEqual(tableaux_of((3,), (1, 0, 2)), [((1, 3, 3),)])
        self.assertEqual(
            tableaux_of((2, 2), (1, 1, 1, 1)),
            [((1, 2), (3, 4)), ((1, 3), (2, 4))],
        )

    def test_the_empty_shape(self):
        self.assertEqual(tableaux_of((), ()), [()])
        for many in range(1, 7):
            self.assertEqual(tableaux_of((), (0,) * many), [()])

    def test_contents_whose_sum_is_not_the_size(self):
        for shape, content in (
            ((), (1,)), ((1,), ()), ((1,), (0, 0)), ((2, 1), (1, 1)), ((2, 1), (2, 2)), ((1,), (2,)),
            ((3, 2), (2, 2)), ((4, 4), (1, 1, 1, 1, 1, 1)), ((9,), (8,)), ((1000000,) * 24, (1, 2, 3)),
        ):
            self.assertEqual(tableaux_of(shape, content), [])

    def test_all_small_shapes_and_contents(self):
        for size in range(6):
            for shape in shapes_of_size(size):
                for letters in range(5):
                    found = tableaux_by_trying(shape, letters)
                    for total in range(size + 2):
                        for content in tuples_with_sum(letters, total):
                            expected = sorted(found.get(content, []))
                            self.assertEqual(tableaux_of(shape, content), expected)

    def test_six_letters_and_sums_of_8(self):
        many = 0
        for content in ((1, 2, 1, 1, 2, 1), (3, 0, 1, 2, 0, 2), (2, 2, 2, 2), (0, 0, 8), (1,) * 5 + (3,)):
            for shape in shapes_of_size(8):
                found = tableaux_of(shape, content)
                many += len(found)
                self.assertEqual(found, sorted(set(found)))
                for tableau in found:
                    self.assertTrue(is_tableau(tableau))
                    self.assertEqual(tuple(map(len, tableau)), shape)
                    self.assertEqual(content_of(tableau, len(content)), content)
                # There are as many for each order of the content.
                self.assertEqual(len(found), len(tableaux_of(shape, content[::-1])))
        self.assertGreater(many, 100)

    def test_standard_tableaux_of_six_letters(self):
        for shape, many in (((6,), 1), ((5, 1), 5), ((4, 2), 9), ((3, 3), 5), ((3, 2, 1), 16), ((2, 2, 2), 5)):
            self.assertEqual(len(tableaux_of(shape, (1,) * 6)), many)

    def test_each_row_of_letters_once(self):
        self.assertEqual(tableaux_of((1,) * 6, (1,) * 6), [tuple((k,) for k in range(1, 7))])
        self.assertEqual(tableaux_of((1,) * 7, (1,) * 5 + (2,)), [])
        self.assertEqual(tableaux_of((8,), (0, 3, 0, 5)), [((2, 2, 2, 4, 4, 4, 4, 4),)])

    def test_kinds_of_results(self):
        found = tableaux_of((2, 1), (1, 1, 1))
        self.assertIs(type(found), list)
        for tableau in found:
            self.assertIs(type(tableau), tuple)
            for row in tableau:
                self.assertIs(type(row), tuple)
                for letter in row:
                    self.assertIs(type(letter), int)

    def test_somewhat_beyond_the_limits(self):
        self.assertEqual(len(tableaux_of((4, 3, 2), (1,) * 9)), 168)
        self.assertEqual(len(tableaux_of((3, 3, 3, 1), (2, 2, 2, 1, 1, 1, 1))), len(
            tableaux_of((3, 3, 3, 1), (1, 1, 1, 1, 2, 2, 2))
        ))
        self.assertEqual(tableaux_of((201,), (200, 1)), [((1,) * 200 + (2,),)])
        self.assertEqual(tableaux_of((1,), (0,) * 60 + (1,)), [((61,),)])
        self.assertEqual(tableaux_of((1,) * 26, (1,) * 26), [tuple((k,) for k in range(1, 27))])

    def test_the_list_is_new_at_each_call(self):
        for shape, content in (((2, 1), (1, 1, 1)), ((), ()), ((), (0,)), ((1,), ())):
            found = tableaux_of(shape, content)
            kept = list(found)
            found.append("marked")
            self.assertEqual(tableaux_of(shape, content), kept)


class TestBoardsOf(unittest.TestCase):
    def test_small_sums(self):
        self.assertEqual(boards_of((1, 1), (1, 1)), [((0, 1), (1, 0)), ((1, 0), (0, 1))])
        self.assertEqual(boards_of((2, 1), (1, 2)), [((0, 2), (1, 0)), ((1, 1), (0, 1))])
        self.assertEqual(boards_of((3,), (1, 0, 2)), [((1, 0, 2),)])
        self.assertEqual(boards_of((1, 0, 2), (3,)), [((1,), (0,), (2,))])
        for total in range(9):
            self.assertEqual(boards_of((total,), (total,)), [((total,),)])

    def test_sums_that_are_0(self):
        for rows, columns in itertools.product(range(1, 5), repeat=2):
            self.assertEqual(boards_of((0,) * rows, (0,) * columns), [((0,) * columns,) * rows])
        self.assertEqual(boards_of((0, 2, 0), (0, 2)), [((0, 0), (0, 2), (0, 0))])

    def test_sums_that_differ(self):
        for rows, columns in (
            ((1,), (2,)), ((2,), (1,)), ((0,), (1,)), ((1,), (0,)), ((1, 1), (1, 2)), ((2, 2), (3,)),
            ((8,), (2, 2, 2)), ((0, 0, 0, 0), (8,)), ((3, 3), (1, 1, 1, 1)), ((1, 1, 1, 1), (8, 0, 0, 0)),
        ):
            self.assertEqual(boards_of(rows, columns), [])

    def test_all_small_boards(self):
        for size in itertools.product((1, 2), (1, 2, 3)):
            self.check_size(size, 3 if size[0] * size[1] > 4 else 4)
        self.check_size((3, 2), 3)
        self.check_size((3, 1), 4)
        self.check_size((4, 1), 4)
        self.check_size((1, 4), 4)
        self.check_size((2, 4), 2)
        self.check_size((4, 2), 2)
        self.check_size((3, 3), 2)

    def check_size(self, size, total):
        """All boards of this size whose amounts add up to at most the total, and all sums up to it."""
        found = boards_by_trying(size, total)
        for low, high in itertools.product(range(total + 1), repeat=2):
            for rows in tuples_with_sum(size[0], low):
                for columns in tuples_with_sum(size[1], high):
                    expected = sorted(found.get((rows, columns), []))
                    self.assertEqual(boards_of(rows, columns), expected)

    def test_sums_of_8(self):
        self.assertEqual(len(boards_of((2, 2, 2, 2), (2, 2, 2, 2))), 282)
        self.assertEqual(len(boards_of((4, 4), (4, 4))), 5)
        self.assertEqual(len(boards_of((8,), (1, 2, 3, 2))), 1)
        for rows, columns in (
            ((2, 2, 2, 2), (2, 2, 2, 2)), ((1, 3, 0, 4), (2, 2, 4)), ((8, 0), (3, 5)), ((5, 3), (1, 1, 6, 0)),
        ):
            found = boards_of(rows, columns)
            self.assertEqual(found, sorted(set(found)))
            for board in found:
                self.assertEqual((row_sums(board), column_sums(board)), (rows, columns))
                self.assertTrue(all(amount >= 0 for row in board for amount in row))

    def test_as_many_boards_as_pairs_of_tableaux(self):
        many = 0
        contents = [held for length in (1, 2, 3) for total in range(5) for held in tuples_with_sum(length, total)]
        contents += [(2, 2, 2, 2), (1, 3, 0, 4), (5, 3), (8,), (0, 1, 2), (1, 1, 1, 1), (3, 2, 2, 1)]
        numbers = {
            content: {shape: len(tableaux_of(shape, content)) for shape in shapes_of_size(sum(content))}
            for content in contents
        }
        for rows, columns in itertools.product(contents, repeat=2):
            pairs = sum(number * numbers[columns].get(shape, 0) for shape, number in numbers[rows].items())
            self.assertEqual(len(boards_of(rows, columns)), pairs)
            many += pairs
        self.assertGreater(many, 1000)

    def test_the_tableaux_of_the_words_of_the_boards_have_the_column_sums_as_content(self):
        for rows, columns in (((2, 2, 1), (1, 3, 1)), ((3, 0, 2, 1), (2, 2, 2))):
            found = {}
            for board in boards_of(rows, columns):
                first, second = pair_of(word_of_board(board, len(rows)))
                self.assertIn(first, tableaux_of(tuple(map(len, second)), columns))
                found.setdefault(first, []).append(second)
            for first, seconds in found.items():
                self.assertEqual(len(set(seconds)), len(tableaux_of(tuple(map(len, first)), rows)))

    def test_kinds_of_results(self):
        found = boards_of((2, 1), (1, 1, 1))
        self.assertIs(type(found), list)
        for board in found:
            self.assertIs(type(board), tuple)
            for row in board:
                self.assertIs(type(row), tuple)
                for amount in row:
                    self.assertIs(type(amount), int)

    def test_somewhat_beyond_the_limits(self):
        self.assertEqual(len(boards_of((1,) * 5, (1,) * 5)), 120)
        self.assertEqual(len(boards_of((3, 3, 3), (3, 3, 3))), 55)
        self.assertEqual(boards_of((0,) * 9, (0,) * 9), [((0,) * 9,) * 9])
        self.assertEqual(boards_of((), ()), [()])

    def test_the_list_is_new_at_each_call(self):
        for rows, columns in (((1, 1), (1, 1)), ((0,), (0,)), ((1,), (2,))):
            found = boards_of(rows, columns)
            kept = list(found)
            found.append("marked")
            self.assertEqual(boards_of(rows, columns), kept)


if __name__ == "__main__":
    unittest.main()

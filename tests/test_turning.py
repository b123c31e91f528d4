"""Point 31: transposed and turned boards."""

import itertools
import unittest

from helpers import boards_with, mixed_board
from walkhands.corners import shapes_of
from walkhands.turning import transposed, turned

MIXED = [
    mixed_board(rows, columns, seed)
    for rows, columns in itertools.product(range(1, 9), repeat=2)
    for seed in (1, 2)
]


class TestTransposed(unittest.TestCase):
    def test_small_boards(self):
        self.assertEqual(transposed(((1, 2), (3, 4))), ((1, 3), (2, 4)))
        self.assertEqual(transposed(((1, 2, 3), (4, 5, 6))), ((1, 4), (2, 5), (3, 6)))

    def test_one_row_one_column_and_one_cell(self):
        self.assertEqual(transposed(((1, 2, 3),)), ((1,), (2,), (3,)))
        self.assertEqual(transposed(((1,), (2,), (3,))), ((1, 2, 3),))
        self.assertEqual(transposed(((7,),)), ((7,),))

    def test_rows_and_columns_are_exchanged(self):
        for board in MIXED:
            found = transposed(board)
            rows, columns = len(board), len(board[0])
            self.assertEqual([len(row) for row in found], [rows] * columns)
            for i, j in itertools.product(range(rows), range(columns)):
                self.assertEqual(found[j][i], board[i][j])

    def test_twice_gives_the_board(self):
        for board in MIXED:
            self.assertEqual(transposed(transposed(board)), board)


class TestTurned(unittest.TestCase):
    def test_small_boards(self):
        self.assertEqual(turned(((1, 2), (3, 4))), ((4, 3), (2, 1)))
        self.assertEqual(turned(((1, 2, 3), (4, 5, 6))), ((6, 5, 4), (3, 2, 1)))

    def test_one_row_one_column_and_one_cell(self):
        self.assertEqual(turned(((1, 2, 3),)), ((3, 2, 1),))
        self.assertEqual(turned(((1,), (2,), (3,))), ((3,), (2,), (1,)))
        self.assertEqual(turned(((7,),)), ((7,),))

    def test_rows_and_what_they_hold_are_in_reverse_order(self):
        for board in MIXED:
            found = turned(board)
            rows, columns = len(board), len(board[0])
            self.assertEqual([len(row) for row in found], [columns] * rows)
            for i, j in itertools.product(range(rows), range(columns)):
                self.assertEqual(found[rows - 1 - i][columns - 1 - j], board[i][j])

    def test_twice_gives_the_board(self):
        for board in MIXED:
            self.assertEqual(turned(turned(board)), board)


class TestBoth(unittest.TestCase):
    def test_the_shape_at_the_last_corner_is_the_same(self):
        small = boards_with(2, 2, (0, 1, 3)) + boards_with(2, 3, (0, 1)) + boards_with(3, 3, (0, 1))
        for board in MIXED + small:
            shape = shapes_of(board)[-1][-1]
            self.assertEqual(shapes_of(transposed(board))[-1][-1], shape)
            self.assertEqual(shapes_of(turned(board))[-1][-1], shape)
            self.assertEqual(shapes_of(turned(transposed(board)))[-1][-1], shape)

    def test_the_shapes_of_the_transposed_board_are_exchanged_everywhere(self):
        for board in MIXED:
            corners, other = shapes_of(board), shapes_of(transposed(board))
            for i, j in itertools.product(range(len(corners)), range(len(corners[0]))):
                self.assertEqual(other[j][i], corners[i][j])

    def test_kinds_of_results(self):
        for found in (transposed(mixed_board(2, 3, 3)), turned(mixed_board(2, 3, 3))):
            self.assertIs(type(found), tuple)
            for row in found:
                self.assertIs(type(row), tuple)
                for amount in row:
                    self.assertIs(type(amount), int)

    def test_somewhat_beyond_the_limits(self):
        board = mixed_board(9, 11, 4, 2000)
        self.assertEqual(transposed(board), tuple(tuple(row[j] for row in board) for j in range(11)))
        self.assertEqual(turned(board), tuple(tuple(reversed(row)) for row in reversed(board)))
        self.assertEqual(transposed(()), ())
        self.assertEqual(turned(()), ())


if __name__ == "__main__":
    unittest.main()

"""Points 6 to 9 and 23: the shapes at the corners of a board, its border, and back."""

import copy
import unittest

from helpers import boards_with, chains_to, mixed_board, most_collected, shapes_in_box
from walkhands.corners import board_of, border_of, shapes_of
from walkhands.errors import AmountTooGreat, DifferentEnds
from walkhands.shapes import grow, is_chain, is_shape


def even_shape(rows, columns, amount):
    """The shape of a rectangle in which each cell has this amount."""
    return tuple((rows + columns + 1 - 2 * r) * amount for r in range(1, min(rows, columns) + 1))


MIXED = [
    mixed_board(rows, columns, seed, limit)
    for rows, columns in ((1, 1), (1, 8), (8, 1), (2, 3), (3, 2), (4, 4), (3, 7), (7, 5), (8, 8))
    for seed in (1, 2)
    for limit in (1, 9, 1000)
]


class TestShapesOf(unittest.TestCase):
    def test_small_boards(self):
        self.assertEqual(shapes_of(((5,),)), [[(), ()], [(), (5,)]])
        self.assertEqual(shapes_of(((0,),)), [[(), ()], [(), ()]])
        self.assertEqual(
            shapes_of(((1, 2), (3, 4))),
            [[(), (), ()], [(), (1,), (3,)], [(), (4,), (8, 2)]],
        )
        self.assertEqual(
            shapes_of(((0, 2, 1), (3, 0, 0))),
            [[(), (), (), ()], [(), (), (2,), (3,)], [(), (3,), (3, 2), (3, 3)]],
        )

    def test_one_row(self):
        self.assertEqual(shapes_of(((2, 0, 7),)), [[(), (), (), ()], [(), (2,), (2,), (9,)]])

    def test_one_column(self):
        self.assertEqual(shapes_of(((2,), (0,), (7,))), [[(), ()], [(), (2,)], [(), (2,)], [(), (9,)]])

    def test_boards_with_the_same_amount_everywhere(self):
        for amount in (0, 1, 1000):
            corners = shapes_of(((amount,) * 8,) * 8)
            for i in range(9):
                for j in range(9):
                    expected = even_shape(i, j, amount) if amount > 0 else ()
                    self.assertEqual(corners[i][j], expected)

    def test_corners_in_row_0_and_column_0_are_empty(self):
        for board in MIXED:
            corners = shapes_of(board)
            self.assertEqual(corners[0], [()] * (len(board[0]) + 1))
            self.assertEqual([row[0] for row in corners], [()] * (len(board) + 1))

    def test_each_corner_is_grown_by_the_local_rule(self):
        for board in MIXED:
            corners = shapes_of(board)
            self.assertEqual(len(corners), len(board) + 1)
            for i, amounts in enumerate(board, 1):
                self.assertEqual(len(corners[i]), len(amounts) + 1)
                for j, amount in enumerate(amounts, 1):
                    rho, mu, nu = corners[i - 1][j - 1], corners[i - 1][j], corners[i][j - 1]
                    self.assertEqual(corners[i][j], grow(rho, mu, nu, amount))

    def test_sizes(self):
        for board in MIXED:
            corners = shapes_of(board)
            for i in range(len(board) + 1):
                for j in range(len(board[0]) + 1):
                    self.assertTrue(is_shape(corners[i][j]))
                    self.assertEqual(sum(corners[i][j]), sum(sum(row[:j]) for row in board[:i]))

    def test_a_shape_depends_on_the_amounts_above_and_to_the_left_alone(self):
        board, other = mixed_board(5, 6, 3), mixed_board(5, 6, 4)
        corners = shapes_of(board)
        for i in range(1, 6):
            for j in range(1, 7):
                cut = tuple(row[:j] for row in board[:i])
                self.assertEqual(shapes_of(cut)[i][j], corners[i][j])
                mixed = tuple(row + other[k][j:] for k, row in enumerate(cut)) + other[i:]
                self.assertEqual(shapes_of(mixed)[i][j], corners[i][j])

    def test_lists_of_lists_of_tuples(self):
        corners = shapes_of(mixed_board(3, 4, 5))
        self.assertIs(type(corners), list)
        for row in corners:
            self.assertIs(type(row), list)
            for shape in row:
                self.assertIs(type(shape), tuple)

    def test_somewhat_beyond_the_limits(self):
        corners = shapes_of(((2000,) * 10,) * 9)
        self.assertEqual(corners[9][10], even_shape(9, 10, 2000))
        self.assertEqual(shapes_of(((1001,),)), [[(), ()], [(), (1001,)]])
        self.assertEqual(shapes_of(()), [[()]])
        self.assertEqual(shapes_of(((), ())), [[()], [()], [()]])
        shapes_of(((-1, 0, 3), (2, -1, 0)))


class TestFirstParts(unittest.TestCase):
    def check(self, board):
        corners = shapes_of(board)
        for i in range(1, len(board) + 1):
            for j in range(1, len(board[0]) + 1):
                for count in range(1, min(i, j, 3) + 2):
                    told = sum(corners[i][j][:count])
                    with self.subTest(board=board, i=i, j=j, count=count):
                        self.assertEqual(told, most_collected(board, count, i, j))

    def test_small_boards(self):
        for board in boards_with(2, 2, (0, 1, 3)) + boards_with(2, 3, (0, 1)) + boards_with(3, 2, (0, 2)):
            self.check(board)

    def test_larger_boards(self):
        for seed in range(1, 5):
            self.check(mixed_board(3, 3, seed, 4))
            self.check(mixed_board(3, 4, seed, 1))
        self.check(mixed_board(4, 4, 1, 9))
        self.check(mixed_board(1, 8, 2))
        self.check(mixed_board(8, 1, 2))

    def test_two_walks_that_share_only_cells_without_an_amount(self):
        board = ((0, 1, 1), (1, 0, 1), (1, 1, 0))
        self.assertEqual(shapes_of(board)[3][3], (3, 3))
        self.check(board)


class TestBorderOf(unittest.TestCase):
    def test_small_boards(self):
        self.assertEqual(border_of(((1, 2), (3, 4))), ([(), (3,), (8, 2)], [(), (4,), (8, 2)]))
        self.assertEqual(border_of(((0, 2, 1), (3, 0, 0))), ([(), (3,), (3, 3)], [(), (3,), (3, 2), (3, 3)]))
        self.assertEqual(border_of(((7,),)), ([(), (7,)], [(), (7,)]))

    def test_one_row_and_one_column(self):
        self.assertEqual(border_of(((2, 0, 7),)), ([(), (9,)], [(), (2,), (2,), (9,)]))
        self.assertEqual(border_of(((2,), (0,), (7,))), ([(), (2,), (2,), (9,)], [(), (9,)]))

    def test_what_the_point_promises(self):
        for board in MIXED:
            border = border_of(board)
            self.assertIs(type(border), tuple)
            right, bottom = border
            self.assertIs(type(right), list)
            self.assertIs(type(bottom), list)
            corners = shapes_of(board)
            self.assertEqual(right, [row[-1] for row in corners])
            self.assertEqual(bottom, corners[-1])
            self.assertTrue(is_chain(right))
            self.assertTrue(is_chain(bottom))
            self.assertEqual(right[-1], bottom[-1])

    def test_somewhat_beyond_the_limits(self):
        right, bottom = border_of(((2000,) * 10,) * 9)
        self.assertEqual(right, [even_shape(i, 10, 2000) for i in range(10)])
        self.assertEqual(bottom, [even_shape(9, j, 2000) for j in range(11)])
        self.assertEqual(border_of(()), ([()], [()]))


class TestBoardOf(unittest.TestCase):
    def test_small_boards(self):
        self.assertEqual(board_of([(), (3,), (8, 2)], [(), (4,), (8, 2)]), ((1, 2), (3, 4)))
        self.assertEqual(board_of([(), (3,), (3, 3)], [(), (3,), (3, 2), (3, 3)]), ((0, 2, 1), (3, 0, 0)))
        self.assertEqual(board_of([(), (9,)], [(), (2,), (2,), (9,)]), ((2, 0, 7),))
        self.assertEqual(board_of([(), (2,), (2,), (9,)], [(), (9,)]), ((2,), (0,), (7,)))

    def test_chains_of_two_shapes(self):
        self.assertEqual(board_of([(), ()], [(), ()]), ((0,),))
        self.assertEqual(board_of([(), (1,)], [(), (1,)]), ((1,),))

    def test_chains_of_nine_shapes(self):
        for amount in (0, 1, 1000):
            board = ((amount,) * 8,) * 8
            self.assertEqual(board_of(*border_of(board)), board)
        board = mixed_board(8, 8, 9)
        right, bottom = border_of(board)
        self.assertEqual((len(right), len(bottom)), (9, 9))
        self.assertEqual(board_of(right, bottom), board)

    def test_the_board_of_the_border_of_a_board_is_the_board(self):
        for board in MIXED + boards_with(2, 2, (0, 1, 2)) + boards_with(2, 3, (0, 1)) + boards_with(3, 2, (0, 1)):
            self.assertEqual(board_of(*border_of(board)), board)

    def test_each_pair_of_chains_with_one_end_is_the_border_of_one_board(self):
        shapes = shapes_in_box(3, 3)
        found = {}
        for end in shapes:
            for right in chains_to(end, 3, shapes):
                for bottom in chains_to(end, 2, shapes):
                    board = board_of(right, bottom)
                    self.assertEqual([len(row) for row in board], [2, 2, 2])
                    self.assertTrue(all(0 <= amount <= 1000 for row in board for amount in row))
                    self.assertEqual(border_of(board), (right, bottom))
                    self.assertNotIn(board, found)
                    found[board] = True
        self.assertGreater(len(found), 100)

    def test_a_tuple_of_tuples_of_integers(self):
        board = board_of([(), (3,), (8, 2)], [(), (4,), (8, 2)])
        self.assertIs(type(board), tuple)
        for row in board:
            self.assertIs(type(row), tuple)
            for amount in row:
                self.assertIs(type(amount), int)

    def test_different_ends(self):
        cases = (
            ([(), (1,)], [(), (2,)]),
            ([(), ()], [(), (1,)]),
            ([(), (2,), (2, 2)], [(), (2,), (3, 1)]),
            ([(), (2,), (3, 1)], [(), (3,)]),
        )
        for right, bottom in cases:
            with self.subTest(right=right, bottom=bottom), self.assertRaises(DifferentEnds) as caught:
                board_of(right, bottom)
            self.assertIs(type(caught.exception), DifferentEnds)

    def test_an_amount_of_1000_or_1001(self):
        self.assertEqual(board_of([(), (1000,)], [(), (1000,)]), ((1000,),))
        self.assert_too_great([(), (1001,)], [(), (1001,)])
        self.assert_too_great([(), (1001,), (1001,)], [(), (1001,), (1001,)])
        self.assertEqual(board_of([(), (999,), (1999,)], [(), (), (1999,)]), ((0, 999), (0, 1000)))

    def test_an_amount_of_1000_or_1001_in_each_cell(self):
        for i in range(3):
            for j in range(4):
                for amount in (1000, 1001):
                    board = [list(row) for row in mixed_board(3, 4, 6)]
                    board[i][j] = amount
                    board = tuple(tuple(row) for row in board)
                    right, bottom = border_of(board)
                    if amount == 1000:
                        self.assertEqual(board_of(right, bottom), board)
                    else:
                        self.assert_too_great(right, bottom)

    def assert_too_great(self, right, bottom):
        with self.assertRaises(AmountTooGreat) as caught:
            board_of(right, bottom)
        self.assertIs(type(caught.exception), AmountTooGreat)

    def test_different_ends_come_before_an_amount_too_great(self):
        for right, bottom in (
            ([(), (1001,)], [(), (1002,)]),
            ([(), (5000,), (5000, 1)], [(), (5000,), (5001,)]),
            ([(), (5000,)], [(), ()]),
        ):
            with self.subTest(right=right, bottom=bottom), self.assertRaises(DifferentEnds):
                board_of(right, bottom)

    def test_parts_above_1000_are_no_error_by_themselves(self):
        self.assertEqual(board_of([(), (8000,)], [(1000 * k,) if k else () for k in range(9)]), ((1000,) * 8,))

    def test_somewhat_beyond_the_limits(self):
        board = mixed_board(10, 11, 7)
        self.assertEqual(board_of(*border_of(board)), board)
        self.assertEqual(board_of([()], [()]), ())
        self.assertEqual(board_of([()], [(), ()]), ())
        self.assertEqual(board_of([(), ()], [()]), ((),))


class TestArgumentsAndResults(unittest.TestCase):
    def test_lists_that_are_passed_stay_as_they_were(self):
        for right, bottom in (
            ([(), (3,), (3, 3)], [(), (3,), (3, 2), (3, 3)]),
            ([(), (1,)], [(), (2,)]),
            ([(), (1001,)], [(), (1001,)]),
        ):
            before = copy.deepcopy((right, bottom))
            try:
                board_of(right, bottom)
            except (DifferentEnds, AmountTooGreat):
                pass
            self.assertEqual((right, bottom), before)

    def test_one_list_as_both_chains(self):
        chain = [(), (2,), (3, 1)]
        board = board_of(chain, chain)
        self.assertEqual(border_of(board), (chain, chain))
        self.assertEqual(chain, [(), (2,), (3, 1)])

    def test_returned_lists_are_new_at_each_call(self):
        board = mixed_board(3, 4, 8)
        corners, border = shapes_of(board), border_of(board)
        kept = copy.deepcopy((corners, border))
        for row in corners:
            row.append("marked")
            self.assertEqual(sum(other[-1] == "marked" for other in corners), 1)
            row.pop()
        border[0].append("marked")
        self.assertEqual(border[1], kept[1][1])
        border[1].clear()
        corners[2].clear()
        corners.clear()
        self.assertEqual((shapes_of(board), border_of(board)), kept)


if __name__ == "__main__":
    unittest.main()

"""Points 25 to 27: heights and their bound, the judge, and the told heights."""

import itertools
import random
import unittest

from helpers import (
    all_visited, all_walks, boards_with, collected_by_the_words, mixed_board, most_collected, worth,
)
from walkhands.corners import shapes_of
from walkhands.errors import NotAFamily, NotHeights
from walkhands.heights import bound, judge, told_heights
from walkhands.turning import transposed
from walkhands.walks import best_family

SMALL_BOARDS = (
    boards_with(1, 1, range(4)) + boards_with(1, 3, (0, 1, 3)) + boards_with(3, 1, (0, 1, 3))
    + boards_with(2, 2, (0, 1, 3)) + boards_with(2, 3, (0, 1)) + boards_with(3, 2, (0, 2))
)


def all_heights(rows, columns, greatest):
    """All heights of the rectangle, none of them above `greatest`."""
    found = [((0,) * (columns + 1),)]
    for _ in range(rows):
        found = [held + (row,) for held in found for row in rows_over(held[-1], greatest)]
    return found


def rows_over(above, greatest):
    rows = [(0,)]
    for height in above[1:]:
        rows = [row + (x,) for row in rows for x in range(max(height, row[-1]), greatest + 1)]
    return rows


def drawn_heights(rows, columns, chance, step):
    heights = [[0] * (columns + 1) for _ in range(rows + 1)]
    for u in range(1, rows + 1):
        for v in range(1, columns + 1):
            above, left = heights[u - 1][v], heights[u][v - 1]
            heights[u][v] = max(above, left) + chance.choice((0, chance.randint(0, step)))
    return tuple(map(tuple, heights))


def zeros(rows, columns):
    return ((0,) * (columns + 1),) * (rows + 1)


def are_heights(heights, rows, columns):
    """Point 25, for integers that stand in rows of any length."""
    return (
        [len(row) for row in heights] == [columns + 1] * (rows + 1)
        and all(
            height == 0 if u == 0 or v == 0 else height >= heights[u - 1][v] and height >= heights[u][v - 1]
            for u, row in enumerate(heights)
            for v, height in enumerate(row)
        )
    )


def bound_by_the_words(board, heights, count):
    rows, columns = len(heights) - 1, len(heights[0]) - 1
    total = count * heights[rows][columns]
    for u, v in itertools.product(range(1, rows + 1), range(1, columns + 1)):
        rise = heights[u][v] - max(heights[u - 1][v], heights[u][v - 1])
        if board[u - 1][v - 1] > rise:
            total += board[u - 1][v - 1] - rise
    return total


def told_by_trying(board, count, rows, columns):
    """Point 27, by trying all walks."""
    most = most_collected(board, count, rows, columns)
    heights = [[0] * (columns + 1) for _ in range(rows + 1)]
    for u, v in itertools.product(range(1, rows + 1), range(1, columns + 1)):
        heights[u][v] = max(
            worth(board, visited | further)
            for visited in all_visited(count, rows, columns)
            for further in all_visited(1, u, v)
        ) - most
    return tuple(map(tuple, heights))


def heights_for_one_walk(board):
    """The most that one walk collects on its way to each corner; its bound is the last one of them."""
    heights = [[0] * (len(board[0]) + 1) for _ in range(len(board) + 1)]
    for u, row in enumerate(board, 1):
        for v, amount in enumerate(row, 1):
            heights[u][v] = max(heights[u - 1][v], heights[u][v - 1]) + amount
    return tuple(map(tuple, heights))


def walks_to_all_cells(side):
    """As many walks as there are rows; each cell of the square is visited by at least one of them."""
    return tuple((k,) * (side - 1) + (side,) for k in range(1, side + 1))


NO_HEIGHTS = (
    # no row at all, too few rows, too few columns
    (), ((),), ((0,),), ((0, 0, 0),), ((0, 0, 0, 0),), ((0,), (0,)), ((0,), (0,), (0,)), ((), ()), ((), (), ()),
    # more rows or more columns than the board has
    ((0, 0),) * 4, ((0, 0, 0, 0),) * 4, ((0,) * 5,) * 2, ((0,) * 5,) * 3, ((0,) * 5,) * 4,
    # not 0 in row 0 or in column 0
    ((0, 0, 0, 1), (0, 1, 1, 1), (0, 1, 1, 1)), ((0, 1, 1, 1), (0, 1, 1, 1), (0, 1, 1, 1)),
    ((1, 1, 1, 1), (1, 1, 1, 1), (1, 1, 1, 1)), ((1, 0, 0, 0), (0, 0, 0, 0), (0, 0, 0, 0)),
    ((0, 0, 0, 0), (0, 1, 1, 1), (1, 1, 1, 1)), ((0, 0, 0, 0), (1, 1, 1, 1), (1, 1, 1, 1)),
    ((-1, 0, 0, 0), (0, 0, 0, 0), (0, 0, 0, 0)), ((0, 0, 0, 0), (0, 0, 0, 0), (-1, 0, 0, 0)),
    ((0, 0, 0, -1), (0, 0, 0, 0), (0, 0, 0, 0)),
    # less than the one above it
    ((0, 0, 0, 0), (0, 1, 2, 3), (0, 1, 2, 2)), ((0, 0, 0, 0), (0, 1, 2, 3), (0, 0, 2, 3)),
    ((0, 0, 0, 0), (0, -1, 0, 0), (0, 0, 0, 0)),
    # less than the one to its left
    ((0, 0, 0, 0), (0, 1, 1, 1), (0, 2, 1, 1)), ((0, 0, 0, 0), (0, 1, 1, 1), (0, 2, 3, 2)),
    ((0, 0, 0, 0), (0, 1, 0, 1), (0, 1, 1, 1)), ((0, 0, 0, 0), (0, 0, 0, 0), (0, 0, -1, 0)),
    # rows of different lengths
    ((0, 0, 0, 0), (0, 1, 1, 1), (0, 1, 1)), ((0, 0, 0, 0), (0, 1, 1), (0, 1, 1, 1)),
    ((0, 0, 0), (0, 1, 1, 1), (0, 1, 1, 1)), ((0, 0, 0, 0), (0, 1, 1, 1), (0, 1, 1, 1, 1)),
    ((0, 0, 0, 0), (0, 1, 1, 1, 1), (0, 1, 1, 1)), ((0, 0, 0, 0), (), (0, 1, 1, 1)),
    ((0, 0, 0, 0), (0, 1, 1, 1), ()), ((), (0, 1, 1, 1), (0, 1, 1, 1)), ((0, 0, 0, 0), (0,), (0, 1, 1, 1)),
)


class TestBound(unittest.TestCase):
    def test_ordinary_heights(self):
        board = ((1, 2), (3, 4))
        heights = ((0, 0, 0), (0, 1, 3), (0, 3, 5))
        # The rises are 1, 2, 2 and 2.
        self.assertEqual(bound(board, heights, 1), 5 + 0 + 0 + 1 + 2)
        self.assertEqual(bound(board, heights, 2), 10 + 0 + 0 + 1 + 2)
        self.assertEqual(bound(board, ((0, 0, 0), (0, 1, 3), (0, 4, 8)), 1), 8)
        self.assertEqual(bound(board, ((0, 0, 0), (0, 0, 0), (0, 0, 2)), 2), 4 + 1 + 2 + 3 + 2)

    def test_a_rise_above_the_amount_adds_nothing(self):
        board = ((1, 2), (3, 4))
        self.assertEqual(bound(board, ((0, 0, 0), (0, 9, 9), (0, 9, 9)), 1), 9 + 0 + 2 + 3 + 4)
        self.assertEqual(bound(board, ((0, 0, 0), (0, 0, 0), (0, 0, 50)), 3), 150 + 1 + 2 + 3)

    def test_the_greater_one_of_two_heights_counts_for_the_rise(self):
        board = ((0, 0), (0, 10))
        self.assertEqual(bound(board, ((0, 0, 0), (0, 0, 5), (0, 2, 6)), 1), 6 + 9)
        self.assertEqual(bound(board, ((0, 0, 0), (0, 0, 2), (0, 5, 6)), 1), 6 + 9)

    def test_one_cell(self):
        for amount, height, count in itertools.product((0, 1, 5, 1000), (0, 1, 4, 5, 6), (1, 2, 8)):
            expected = count * height + max(0, amount - height)
            self.assertEqual(bound(((amount,),), ((0, 0), (0, height)), count), expected)

    def test_one_row_and_one_column(self):
        for count in (1, 2, 3):
            self.assertEqual(bound(((4, 5, 6),), ((0, 0, 0, 0), (0, 1, 6, 8)), count), count * 8 + 3 + 0 + 4)
            heights = ((0, 0), (0, 1), (0, 6), (0, 8))
            self.assertEqual(bound(((4,), (5,), (6,)), heights, count), count * 8 + 3 + 0 + 4)

    def test_heights_that_are_all_0_bound_by_all_amounts(self):
        for rows, columns in ((1, 1), (1, 8), (8, 1), (3, 4), (8, 8)):
            board = mixed_board(rows, columns, 1)
            for count in (1, 2, 8, 20):
                self.assertEqual(bound(board, zeros(rows, columns), count), sum(map(sum, board)))

    def test_a_rectangle_smaller_than_the_board(self):
        board = mixed_board(4, 5, 2)
        for rows, columns in itertools.product(range(1, 5), range(1, 6)):
            cut = tuple(row[:columns] for row in board[:rows])
            self.assertEqual(bound(board, zeros(rows, columns), 3), sum(map(sum, cut)))
            heights = drawn_heights(rows, columns, random.Random(rows * 9 + columns), 500)
            for count in (1, 2, 3):
                self.assertEqual(bound(board, heights, count), bound(cut, heights, count))

    def test_all_small_heights_against_the_words(self):
        for board in (((1, 2), (3, 0)), ((2, 0, 1), (0, 3, 1)), ((1,), (0,), (2,))):
            for heights in all_heights(len(board), len(board[0]), 3):
                self.assertTrue(are_heights(heights, len(board), len(board[0])))
                for count in (1, 2, 5):
                    self.assertEqual(bound(board, heights, count), bound_by_the_words(board, heights, count))

    def test_drawn_heights_against_the_words(self):
        for seed in range(60):
            chance = random.Random(seed)
            board = mixed_board(8, 8, seed, chance.choice((1, 9, 1000)))
            rows, columns = chance.randint(1, 8), chance.randint(1, 8)
            for heights in (
                drawn_heights(rows, columns, chance, chance.choice((1, 9, 1000))),
                drawn_heights(8, 8, chance, chance.choice((1, 9, 1000))),
            ):
                for count in (1, 2, 7, 8, 100):
                    self.assertEqual(bound(board, heights, count), bound_by_the_words(board, heights, count))

    def test_no_family_collects_more_all_heights(self):
        for board in SMALL_BOARDS:
            rows, columns = len(board), len(board[0])
            for count in (1, 2, 3):
                most = most_collected(board, count, rows, columns)
                for heights in all_heights(rows, columns, 3):
                    self.assertLessEqual(most, bound(board, heights, count))

    def test_no_family_collects_more_drawn_heights(self):
        for seed in range(120):
            chance = random.Random(seed)
            limit = chance.choice((1, 3, 1000))
            rows, columns = chance.randint(1, 4), chance.randint(1, 4)
            board = mixed_board(4, 4, seed, limit)
            for count in (1, 2, 3):
                most = most_collected(board, count, rows, columns)
                for _ in range(10):
                    heights = drawn_heights(rows, columns, chance, limit)
                    self.assertLessEqual(most, bound(board, heights, count))

    def test_no_heights(self):
        board = mixed_board(2, 3, 3)
        for heights in NO_HEIGHTS:
            for count in (1, 2):
                with self.subTest(heights=heights), self.assertRaises(NotHeights) as caught:
                    bound(board, heights, count)
                self.assertIs(type(caught.exception), NotHeights)

    def test_all_small_integers(self):
        board = ((1, 2), (3, 4))
        for rows in range(4):
            for columns in range(4):
                if rows * columns > 6:
                    continue
                for flat in itertools.product((-1, 0, 1), repeat=rows * columns):
                    heights = tuple(flat[k * columns:(k + 1) * columns] for k in range(rows))
                    self.check_small(board, heights, rows - 1, columns - 1)
        for corners in itertools.product(range(3), repeat=4):
            heights = ((0, 0, 0), (0,) + corners[:2], (0,) + corners[2:])
            self.check_small(board, heights, 2, 2)

    def check_small(self, board, heights, rows, columns):
        if 1 <= rows <= 2 and 1 <= columns <= 2 and are_heights(heights, rows, columns):
            self.assertEqual(bound(board, heights, 2), bound_by_the_words(board, heights, 2))
        else:
            with self.subTest(heights=heights), self.assertRaises(NotHeights):
                bound(board, heights, 2)

    def test_no_heights_of_8_rows_and_columns(self):
        board = mixed_board(8, 8, 4)
        heights = drawn_heights(8, 8, random.Random(5), 9)
        self.assertEqual(bound(board, heights, 1), bound_by_the_words(board, heights, 1))
        for u, v in itertools.product(range(9), repeat=2):
            # Less than 0 is too little at every corner.
            worse = [list(row) for row in heights]
            worse[u][v] = -1
            with self.subTest(u=u, v=v), self.assertRaises(NotHeights):
                bound(board, tuple(map(tuple, worse)), 1)
        for wrong in (heights + (heights[-1],), tuple(row + (row[-1],) for row in heights)):
            with self.assertRaises(NotHeights):
                bound(board, wrong, 1)

    def test_somewhat_beyond_the_limits(self):
        board = mixed_board(9, 10, 5, 2000)
        heights = drawn_heights(9, 10, random.Random(1), 2000)
        for count in (0, 1, 30):
            self.assertEqual(bound(board, heights, count), bound_by_the_words(board, heights, count))
        with self.assertRaises(NotHeights):
            bound((), ((0, 0), (0, 0)), 1)


class TestJudge(unittest.TestCase):
    def test_ordinary_families(self):
        board = ((1, 2), (3, 4))
        heights = ((0, 0, 0), (0, 1, 3), (0, 4, 8))
        self.assertIs(judge(board, ((1, 2),), heights), True)
        self.assertIs(judge(board, ((2, 2),), heights), False)
        self.assertIs(judge(board, ((1, 2), (2, 2)), heights), False)
        self.assertIs(judge(board, ((1, 2), (2, 2)), zeros(2, 2)), True)
        self.assertIs(judge(board, ((1, 2), (1, 2)), zeros(2, 2)), False)

    def test_as_many_walks_as_the_family_has(self):
        # The bound is 4 times the number of walks, plus 1.
        board, heights = ((5,),), ((0, 0), (0, 4))
        self.assertIs(judge(board, ((1,),), heights), True)
        for many in range(2, 9):
            self.assertIs(judge(board, ((1,),) * many, heights), False)

    def test_one_cell(self):
        for amount, height in itertools.product((0, 1, 5), range(8)):
            self.assertIs(judge(((amount,),), ((1,),), ((0, 0), (0, height))), height <= amount)
            self.assertIs(judge(((amount,),), ((1,), (1,)), ((0, 0), (0, height))), height == 0)

    def test_one_row_and_one_column(self):
        self.assertIs(judge(((4, 5, 6),), ((3,),), ((0, 0, 0, 0), (0, 1, 6, 8))), True)
        self.assertIs(judge(((4, 5, 6),), ((3,),), ((0, 0, 0, 0), (0, 1, 7, 8))), False)
        self.assertIs(judge(((4,), (5,), (6,)), ((1, 1, 1),), ((0, 0), (0, 1), (0, 6), (0, 8))), True)
        self.assertIs(judge(((4,), (5,), (6,)), ((1, 1, 1),), ((0, 0), (0, 1), (0, 7), (0, 8))), False)

    def test_8_rows_and_columns(self):
        for seed in (1, 2, 3):
            board = mixed_board(8, 8, seed)
            heights = heights_for_one_walk(board)
            self.assertIs(judge(board, best_family(board, 1, 8, 8), heights), True)
            self.assertIs(judge(board, ((8,) * 8,), heights), False)
            self.assertIs(judge(board, walks_to_all_cells(8), zeros(8, 8)), True)
            self.assertIs(judge(board, walks_to_all_cells(8)[1:], zeros(8, 8)), False)
            self.assertIs(judge(board, walks_to_all_cells(8), heights), False)

    def test_a_rectangle_smaller_than_the_board(self):
        board = mixed_board(5, 6, 4)
        for rows, columns in itertools.product(range(1, 6), range(1, 6)):
            heights = tuple(row[:columns + 1] for row in heights_for_one_walk(board)[:rows + 1])
            self.assertIs(judge(board, best_family(board, 1, rows, columns), heights), True)

    def test_it_accepts_exactly_if_the_family_collects_the_bound(self):
        accepted = 0
        for board in (((1, 2), (3, 0)), ((1, 0, 1), (0, 1, 1)), ((1, 0), (2, 1), (0, 1))):
            rows, columns = len(board), len(board[0])
            for count in (1, 2, 3):
                families = list(itertools.product(all_walks(rows, columns), repeat=count))
                most = most_collected(board, count, rows, columns)
                for heights in all_heights(rows, columns, 2):
                    limit = bound_by_the_words(board, heights, count)
                    for family in families:
                        found = collected_by_the_words(board, family)
                        self.assertIs(judge(board, family, heights), found == limit)
                        if found == limit:
                            accepted += 1
                            self.assertEqual(found, most)
        self.assertGreater(accepted, 100)

    def test_drawn_heights(self):
        for seed in range(60):
            chance = random.Random(seed)
            board = mixed_board(8, 8, seed, 1)
            rows, columns = chance.randint(1, 8), chance.randint(1, 8)
            heights = drawn_heights(rows, columns, chance, 1)
            for many in range(1, 9):
                family = tuple(
                    tuple(sorted(chance.randint(1, columns) for _ in range(rows - 1))) + (columns,)
                    for _ in range(many)
                )
                expected = collected_by_the_words(board, family) == bound_by_the_words(board, heights, many)
                self.assertIs(judge(board, family, heights), expected)

    def check(self, error, board, family, heights):
        with self.subTest(family=family, heights=heights), self.assertRaises(error) as caught:
            judge(board, family, heights)
        self.assertIs(type(caught.exception), error)

    def test_no_heights(self):
        board = mixed_board(2, 3, 3)
        for heights in NO_HEIGHTS:
            self.check(NotHeights, board, ((1, 3),), heights)
            self.check(NotHeights, board, ((1, 3), (2, 3), (3, 3)), heights)

    def test_heights_of_another_rectangle(self):
        board = mixed_board(3, 3, 6)
        sizes = list(itertools.product((1, 2, 3), repeat=2))
        for rows, columns in sizes:
            family = (all_walks(rows, columns)[0],)
            for i, j in sizes:
                for heights in (zeros(i, j), heights_for_one_walk(tuple(row[:j] for row in board[:i]))):
                    if (i, j) != (rows, columns):
                        self.check(NotHeights, board, family, heights)
                    else:
                        judge(board, family, heights)

    def test_no_family(self):
        board = mixed_board(2, 3, 7)
        for family in (
            (), ((),), ((1, 3), (1, 2)), ((3,), (1, 3)), ((1, 3),) * 9, ((1, 4),), ((1, 1, 3),),
            ((3, 2),), ((0, 3),), ((1, 3), (0, 3)), ((4, 3),), ((-1,),),
        ):
            self.check(NotAFamily, board, family, zeros(2, 3))
            # A family is asked for first.
            for heights in NO_HEIGHTS:
                self.check(NotAFamily, board, family, heights)

    def test_somewhat_beyond_the_limits(self):
        board = mixed_board(9, 9, 8, 3000)
        self.assertIs(judge(board, best_family(board, 1, 9, 9), heights_for_one_walk(board)), True)


class TestToldHeights(unittest.TestCase):
    def check(self, board, count, rows, columns):
        with self.subTest(board=board, count=count, rows=rows, columns=columns):
            heights = told_heights(board, count, rows, columns)
            self.assertTrue(are_heights(heights, rows, columns))
            most = sum(shapes_of(board)[rows][columns][:count])
            self.assertEqual(bound(board, heights, count), most)
            family = best_family(board, count, rows, columns)
            self.assertIs(judge(board, family, heights), True)
            return heights

    def check_by_trying(self, board, count, rows, columns):
        heights = self.check(board, count, rows, columns)
        self.assertEqual(heights, told_by_trying(board, count, rows, columns))

    def test_small_boards(self):
        self.assertEqual(told_heights(((1, 2), (3, 4)), 1, 2, 2), ((0, 0, 0), (0, 0, 2), (0, 2, 2)))
        self.assertEqual(told_heights(((1, 2), (3, 4)), 2, 2, 2), ((0, 0, 0), (0, 0, 0), (0, 0, 0)))
        self.assertEqual(told_heights(((2, 0), (0, 2)), 1, 2, 2), ((0, 0, 0), (0, 0, 0), (0, 0, 0)))
        self.assertEqual(
            told_heights(((0, 1, 1), (1, 0, 1), (1, 1, 0)), 1, 3, 3),
            ((0, 0, 0, 0), (0, 0, 1, 2), (0, 1, 1, 3), (0, 2, 3, 3)),
        )

    def test_one_cell_one_row_and_one_column(self):
        for count in (1, 2, 3):
            # The walks of the rectangle visit all cells.
            self.assertEqual(told_heights(((7,),), count, 1, 1), zeros(1, 1))
            self.assertEqual(told_heights(((7, 0, 2, 5, 1),), count, 1, 5), zeros(1, 5))
            self.assertEqual(told_heights(((7,), (0,), (2,), (5,), (1,)), count, 5, 1), zeros(5, 1))

    def test_all_small_boards(self):
        for board in SMALL_BOARDS:
            for count in (1, 2, 3):
                self.check_by_trying(board, count, len(board), len(board[0]))
        for board in boards_with(3, 3, (0, 1)):
            self.check_by_trying(board, 1, 3, 3)
            self.check_by_trying(board, 2, 3, 3)

    def test_each_rectangle_of_a_board(self):
        for seed in range(1, 5):
            board = mixed_board(4, 4, seed, (1, 2, 9, 1000)[seed % 4])
            for rows, columns, count in itertools.product(range(1, 5), range(1, 5), (1, 2, 3)):
                self.check_by_trying(board, count, rows, columns)

    def test_rectangles_of_5_rows_or_columns(self):
        for seed in range(1, 4):
            for rows, columns in ((5, 5), (5, 3), (3, 5), (5, 1), (1, 5)):
                board = mixed_board(rows, columns, seed, (2, 9, 1000)[seed % 3])
                self.check_by_trying(board, 1, rows, columns)
                self.check_by_trying(board, 2, rows, columns)
        self.check_by_trying(mixed_board(5, 5, 4, 3), 3, 5, 5)
        self.check_by_trying(mixed_board(8, 8, 5), 3, 4, 5)

    def test_what_lies_outside_of_the_rectangle_does_not_matter(self):
        board = mixed_board(8, 7, 6)
        for rows, columns, count in itertools.product(range(1, 6), range(1, 6), (1, 2, 3)):
            cut = tuple(row[:columns] for row in board[:rows])
            heights = self.check(board, count, rows, columns)
            self.assertEqual(heights, told_heights(cut, count, rows, columns))

    def test_no_heights_with_this_bound_are_smaller_anywhere(self):
        for board in SMALL_BOARDS + boards_with(3, 3, (0, 1))[::5]:
            rows, columns = len(board), len(board[0])
            for count in (1, 2, 3):
                told = told_heights(board, count, rows, columns)
                most = most_collected(board, count, rows, columns)
                # Heights of which one is above this have a greater bound.
                for heights in all_heights(rows, columns, most // count):
                    if bound(board, heights, count) != most:
                        continue
                    for row, least in zip(heights, told):
                        self.assertTrue(all(x >= y for x, y in zip(row, least)), (board, count, heights))

    def test_the_transposed_board(self):
        for seed in range(1, 6):
            board = mixed_board(4, 5, seed, 20)
            for count in (1, 2, 3):
                heights = told_heights(board, count, 4, 5)
                self.assertEqual(told_heights(transposed(board), count, 5, 4), transposed(heights))

    def test_kinds_of_results(self):
        board = mixed_board(3, 4, 7)
        heights = told_heights(board, 2, 3, 4)
        self.assertIs(type(heights), tuple)
        for row in heights:
            self.assertIs(type(row), tuple)
            for height in row:
                self.assertIs(type(height), int)
        self.assertIs(type(bound(board, heights, 2)), int)

    def test_somewhat_beyond_the_limits(self):
        board = mixed_board(7, 7, 8, 2000)
        for count, rows, columns in ((4, 5, 5), (3, 6, 6), (1, 7, 7), (2, 6, 2), (4, 1, 1), (8, 3, 3)):
            self.check(board, count, rows, columns)
        self.check_by_trying(mixed_board(6, 3, 9), 2, 6, 3)
        self.check_by_trying(mixed_board(3, 3, 9), 4, 3, 3)
        # Cells outside of the board have the amount 0.
        padded = ((1, 2, 0), (3, 4, 0), (0, 0, 0))
        for count in (1, 2, 3):
            self.assertEqual(told_heights(((1, 2), (3, 4)), count, 3, 3), told_heights(padded, count, 3, 3))
        self.assertEqual(told_heights(((1, 2), (3, 4)), 0, 2, 2), ((0, 0, 0), (0, 1, 3), (0, 4, 8)))
        self.assertEqual(told_heights(((1, 2), (3, 4)), 1, 0, 2), ((0, 0, 0),))
        self.assertEqual(told_heights(((1, 2), (3, 4)), 1, 2, 0), ((0,), (0,), (0,)))


if __name__ == "__main__":
    unittest.main()

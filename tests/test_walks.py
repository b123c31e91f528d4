"""Points 21 to 24: walks, what families collect, and the first of the best families."""

import itertools
import unittest

from helpers import all_walks, boards_with, cells, collected_by_the_words, mixed_board
from walkhands.corners import shapes_of
from walkhands.errors import NotAFamily
from walkhands.walks import best_family, collected


def best_by_trying(board, count, rows, columns):
    """The first of the best families, of all there are, in the order of point 24."""
    best, most = None, -1
    for family in itertools.product(all_walks(rows, columns), repeat=count):
        found = collected_by_the_words(board, family)
        if found > most:
            best, most = family, found
    return best, most


class TestCollected(unittest.TestCase):
    def test_one_walk(self):
        board = ((1, 2, 4), (8, 16, 32))
        self.assertEqual(collected(board, ((1, 3),)), 1 + 8 + 16 + 32)
        self.assertEqual(collected(board, ((2, 3),)), 1 + 2 + 16 + 32)
        self.assertEqual(collected(board, ((3, 3),)), 1 + 2 + 4 + 32)
        self.assertEqual(collected(board, ((1, 2),)), 1 + 8 + 16)
        self.assertEqual(collected(board, ((3,),)), 1 + 2 + 4)
        self.assertEqual(collected(board, ((1, 1),)), 1 + 8)

    def test_walks_of_one_cell(self):
        board = ((5, 2), (3, 4))
        for many in range(1, 9):
            self.assertEqual(collected(board, ((1,),) * many), 5)
        self.assertEqual(collected(((7,),), ((1,),)), 7)

    def test_each_cell_counts_once(self):
        board = ((1, 2, 4), (8, 16, 32))
        self.assertEqual(collected(board, ((1, 3), (3, 3))), 63)
        self.assertEqual(collected(board, ((1, 3), (2, 3))), 63 - 4)
        self.assertEqual(collected(board, ((2, 3), (1, 3))), 63 - 4)
        for many in range(1, 9):
            self.assertEqual(collected(board, ((2, 3),) * many), 1 + 2 + 16 + 32)

    def test_what_no_walk_visits_between_two_of_them_does_not_count(self):
        board = ((1, 2, 4), (8, 16, 32), (64, 128, 256))
        self.assertEqual(collected(board, ((1, 1, 3), (3, 3, 3))), 511 - 16)

    def test_families_of_1_to_8_walks(self):
        board = mixed_board(4, 4, 1)
        walks = all_walks(4, 4)
        for many in range(1, 9):
            for start in range(12):
                family = tuple(walks[start:start + many])
                self.assertEqual(collected(board, family), collected_by_the_words(board, family))

    def test_against_the_words(self):
        board = mixed_board(4, 5, 2)
        for rows in range(1, 5):
            for columns in range(1, 6):
                walks = all_walks(rows, columns)
                for walk in walks:
                    self.assertEqual(collected(board, (walk,)), collected_by_the_words(board, (walk,)))
                for family in itertools.product(walks[::3], walks[::2]):
                    self.assertEqual(collected(board, family), collected_by_the_words(board, family))

    def test_boards_of_8_rows_and_columns(self):
        board = mixed_board(8, 8, 3)
        for family in (
            ((8,) * 8, (1,) * 7 + (8,)),
            (tuple(range(1, 9)),) * 8,
            tuple((k,) * 7 + (8,) for k in range(1, 9)),
        ):
            self.assertEqual(collected(board, family), collected_by_the_words(board, family))
        self.assertEqual(collected(board, ((8,),)), sum(board[0]))
        self.assertEqual(collected(board, ((1,) * 8,)), sum(row[0] for row in board))


class TestNotAFamily(unittest.TestCase):
    board = ((1, 2, 4), (8, 16, 32))

    def check(self, family, board=board):
        with self.subTest(family=family), self.assertRaises(NotAFamily) as caught:
            collected(board, family)
        self.assertIs(type(caught.exception), NotAFamily)

    def test_no_walks_and_9_walks(self):
        self.check(())
        for many in (9, 10, 20):
            self.check(((1, 3),) * many)
        self.assertEqual(collected(self.board, ((1, 3),) * 8), 57)

    def test_walks_without_rows(self):
        self.check(((),))
        self.check(((), ()))
        self.check(((1, 3), ()))
        self.check(((), (1, 3)))

    def test_walks_of_different_rectangles(self):
        self.check(((1, 3), (1, 2)))
        self.check(((1, 2), (1, 3)))
        self.check(((3,), (1, 3)))
        self.check(((1, 3), (3,)))
        self.check(((1,), (2,)))
        self.check(((1, 3), (1, 3), (1, 3), (3, 2)))

    def test_rectangles_beyond_the_board(self):
        self.check(((1, 1, 3),))
        self.check(((1, 4),))
        self.check(((4, 4),))
        self.check(((4,),))
        self.check(((1, 2, 3, 3),))
        self.check(((1, 1),), ((5, 5),))
        self.check(((2,),), ((5,), (5,)))

    def test_walks_that_descend(self):
        self.check(((3, 2),))
        self.check(((2, 1),))
        self.check(((1, 3, 2, 3),), mixed_board(4, 3, 1))
        self.check(((1, 3), (3, 1)))

    def test_columns_from_1_on(self):
        self.check(((0, 3),))
        self.check(((-1, 3),))
        self.check(((0, 0),))
        self.check(((0,),))
        self.check(((-2, -1),))
        self.check(((1, 3), (0, 3)))

    def test_columns_beyond_the_last_one_of_the_walk(self):
        self.check(((3, 2), (1, 2)))
        self.check(((4, 3),))
        self.check(((1, 3), (4, 3)))

    def test_all_tuples_of_up_to_3_integers(self):
        board = mixed_board(2, 3, 5)
        walks = {walk: True for rows in (1, 2) for columns in (1, 2, 3) for walk in all_walks(rows, columns)}
        for length in range(4):
            for walk in itertools.product(range(-1, 5), repeat=length):
                if walk in walks:
                    self.assertEqual(collected(board, (walk,)), collected_by_the_words(board, (walk,)))
                else:
                    self.check((walk,), board)


class TestBestFamily(unittest.TestCase):
    def check(self, board, count, rows, columns):
        with self.subTest(board=board, count=count, rows=rows, columns=columns):
            family = best_family(board, count, rows, columns)
            best, most = best_by_trying(board, count, rows, columns)
            self.assertEqual(family, best)
            self.assertEqual(collected(board, family), most)
            self.assertEqual(most, sum(shapes_of(board)[rows][columns][:count]))

    def test_small_boards(self):
        self.assertEqual(best_family(((1, 2), (3, 4)), 1, 2, 2), ((1, 2),))
        self.assertEqual(best_family(((1, 3), (2, 4)), 1, 2, 2), ((2, 2),))
        self.assertEqual(best_family(((1, 2), (3, 4)), 2, 2, 2), ((1, 2), (2, 2)))
        self.assertEqual(best_family(((1, 2), (3, 4)), 3, 2, 2), ((1, 2), (1, 2), (2, 2)))
        self.assertEqual(best_family(((1, 2), (3, 4)), 1, 1, 2), ((2,),))
        self.assertEqual(best_family(((1, 2), (3, 4)), 2, 2, 1), ((1, 1), (1, 1)))
        self.assertEqual(best_family(((7,),), 3, 1, 1), ((1,), (1,), (1,)))

    def test_smaller_walks_first_where_several_collect_the_most(self):
        for count in (1, 2, 3):
            self.assertEqual(best_family(((0,) * 5,) * 5, count, 5, 5), ((1, 1, 1, 1, 5),) * count)
        self.assertEqual(best_family(((1,) * 5,) * 5, 1, 5, 5), ((1, 1, 1, 1, 5),))
        self.assertEqual(best_family(((1,) * 3,) * 3, 2, 3, 3), ((1, 1, 3), (2, 3, 3)))
        self.assertEqual(best_family(((1,) * 3,) * 3, 3, 3, 3), ((1, 1, 3), (1, 2, 3), (3, 3, 3)))

    def test_all_boards_of_few_amounts(self):
        for board in boards_with(2, 2, (0, 1, 2)) + boards_with(2, 3, (0, 1)) + boards_with(3, 2, (0, 1)):
            for count in (1, 2, 3):
                self.check(board, count, len(board), len(board[0]))
        for board in boards_with(3, 3, (0, 1)):
            for count in (1, 2):
                self.check(board, count, 3, 3)

    def test_each_rectangle_of_a_board(self):
        for seed in range(1, 9):
            board = mixed_board(3, 4, seed, (1, 2, 3, 1000)[seed % 4])
            for rows in range(1, 4):
                for columns in range(1, 5):
                    for count in (1, 2, 3):
                        self.check(board, count, rows, columns)

    def test_larger_rectangles(self):
        for seed in range(1, 7):
            for rows, columns in ((5, 5), (5, 4), (4, 5), (1, 5), (5, 1)):
                board = mixed_board(rows, columns, seed, (1, 2, 9)[seed % 3])
                self.check(board, 1, rows, columns)
                self.check(board, 2, rows, columns)
        for seed in range(1, 4):
            self.check(mixed_board(4, 3, seed, 1), 3, 4, 3)
            self.check(mixed_board(3, 5, seed, 2), 3, 3, 5)

    def test_three_walks_of_5_rows_and_columns(self):
        # Many families visit the same cells; of these only the first one is tried.
        walks = all_walks(5, 5)
        visited = [sum(1 << (5 * i + j - 6) for i, j in cells(walk)) for walk in walks]
        unions = {}
        for a, b, c in itertools.combinations_with_replacement(range(len(walks)), 3):
            unions.setdefault(visited[a] | visited[b] | visited[c], (walks[a], walks[b], walks[c]))
        for seed, limit in ((1, 1), (2, 2), (3, 1000)):
            board = mixed_board(5, 5, seed, limit)
            amounts = [amount for row in board for amount in row]
            worth = {union: sum(amounts[k] for k in range(25) if union >> k & 1) for union in unions}
            most = max(worth.values())
            self.assertEqual(most, sum(shapes_of(board)[5][5][:3]))
            first = min(family for union, family in unions.items() if worth[union] == most)
            self.assertEqual(best_family(board, 3, 5, 5), first)

    def test_rectangles_within_larger_boards(self):
        board = mixed_board(8, 7, 4)
        for rows, columns in ((1, 1), (2, 3), (3, 2), (3, 3)):
            for count in (1, 2, 3):
                self.check(board, count, rows, columns)
        for rows in range(1, 6):
            for columns in range(1, 6):
                cut = tuple(row[:columns] for row in board[:rows])
                for count in (1, 2, 3):
                    family = best_family(board, count, rows, columns)
                    self.assertEqual(family, best_family(cut, count, rows, columns))
                    self.assertEqual(collected(board, family), sum(shapes_of(board)[rows][columns][:count]))

    def test_kinds_of_results(self):
        family = best_family(mixed_board(3, 4, 5), 2, 3, 4)
        self.assertIs(type(family), tuple)
        for walk in family:
            self.assertIs(type(walk), tuple)
            for column in walk:
                self.assertIs(type(column), int)
        self.assertIs(type(collected(((1, 2), (3, 4)), ((1, 2),))), int)

    def test_somewhat_beyond_the_limits(self):
        board = mixed_board(7, 7, 6)
        self.check(mixed_board(2, 3, 6), 4, 2, 3)
        self.check(mixed_board(6, 2, 6), 2, 6, 2)
        for count, rows, columns in ((4, 5, 5), (3, 6, 6), (2, 7, 7), (8, 3, 3)):
            family = best_family(board, count, rows, columns)
            self.assertEqual(len(family), count)
            self.assertEqual(collected(board, family), sum(shapes_of(board)[rows][columns][:count]))
        # Cells outside of the board have the amount 0; where no walk fits in, there is none.
        self.assertEqual(best_family(((1, 2), (3, 4)), 1, 3, 3), ((1, 2, 3),))
        self.assertEqual(best_family(((1, 2), (3, 4)), 0, 2, 2), ())
        self.assertEqual(best_family(((1, 2), (3, 4)), 2, 0, 2), ((), ()))
        self.assertEqual(best_family(((1, 2), (3, 4)), 2, 2, 0), ())


if __name__ == "__main__":
    unittest.main()

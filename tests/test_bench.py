"""Points 10 to 14: a bench against a model that follows rows and columns by labels."""

import itertools
import random
import unittest

from helpers import mixed_board
from walkhands.bench import Bench
from walkhands.corners import shapes_of
from walkhands.errors import (
    NoSuchColumn, NoSuchCorner, NoSuchRow, TooManyChanges, WalkhandsError, WrongAmounts, WrongSize,
)

CHANGES = ("put", "insert_row", "remove_row", "insert_column", "remove_column")


class State:
    """A board whose rows and columns have labels; a label names the same line in two states."""

    def __init__(self, rows, columns, amounts):
        self.rows, self.columns, self.amounts = rows, columns, amounts

    def board(self):
        return tuple(tuple(self.amounts[row, column] for column in self.columns) for row in self.rows)

    def squares(self):
        """By the labels of a cell: its amount and the shapes at three of its corners."""
        corners, board = shapes_of(self.board()), self.board()
        return {
            (row, column): (board[i][j], corners[i][j], corners[i][j + 1], corners[i + 1][j])
            for i, row in enumerate(self.rows)
            for j, column in enumerate(self.columns)
        }


class Model:
    """What points 10 to 14 tell, by their words."""

    def __init__(self, board):
        self.labels = itertools.count()
        rows = [next(self.labels) for _ in board]
        columns = [next(self.labels) for _ in board[0]]
        amounts = {(r, c): board[i][j] for i, r in enumerate(rows) for j, c in enumerate(columns)}
        self.states, self.at = [State(rows, columns, amounts)], 0
        self.grown = len(rows) * len(columns)

    def now(self):
        return self.states[self.at]

    def move(self, at):
        before, after = self.now().squares(), self.states[at].squares()
        self.grown = sum(cell not in before or before[cell] != square for cell, square in after.items())
        self.at = at

    def undo(self):
        if self.at == 0:
            return False
        self.move(self.at - 1)
        return True

    def redo(self):
        if self.at == len(self.states) - 1:
            return False
        self.move(self.at + 1)
        return True

    def wrong(self, name, arguments):
        """The error that a change raises, or None."""
        rows, columns = len(self.now().rows), len(self.now().columns)
        rows_after = rows + {"insert_row": 1, "remove_row": -1}.get(name, 0)
        columns_after = columns + {"insert_column": 1, "remove_column": -1}.get(name, 0)
        row = arguments[0] if name in ("put", "insert_row", "remove_row") else 1
        column = arguments[1] if name == "put" else arguments[0] if name.endswith("column") else 1
        amounts, needed = (), 0
        if name == "put":
            amounts, needed = (arguments[2],), 1
        elif name.startswith("insert"):
            amounts, needed = arguments[1], columns if name == "insert_row" else rows
        if not 1 <= row <= rows + (name == "insert_row"):
            return NoSuchRow
        if not 1 <= column <= columns + (name == "insert_column"):
            return NoSuchColumn
        if len(amounts) != needed or not all(0 <= amount <= 1000 for amount in amounts):
            return WrongAmounts
        if not (1 <= rows_after <= 8 and 1 <= columns_after <= 8):
            return WrongSize
        return TooManyChanges if self.at == 100 else None

    def change(self, name, arguments):
        rows, columns = list(self.now().rows), list(self.now().columns)
        amounts, at = dict(self.now().amounts), arguments[0] - 1
        if name == "put":
            amounts[rows[at], columns[arguments[1] - 1]] = arguments[2]
        elif name == "insert_row":
            rows.insert(at, next(self.labels))
            amounts.update({(rows[at], column): arguments[1][j] for j, column in enumerate(columns)})
        elif name == "remove_row":
            del rows[at]
        elif name == "insert_column":
            columns.insert(at, next(self.labels))
            amounts.update({(row, columns[at]): arguments[1][i] for i, row in enumerate(rows)})
        else:
            del columns[at]
        self.states[self.at + 1:] = [State(rows, columns, amounts)]
        self.move(self.at + 1)


def all_shapes(bench):
    board = bench.board()
    return [[bench.shape(i, j) for j in range(len(board[0]) + 1)] for i in range(len(board) + 1)]


def seen(bench):
    """All that a bench tells, but for what can be undone and redone one after another."""
    return bench.board(), all_shapes(bench), bench.grown(), bench.changes(), bench.undone()


class BenchTest(unittest.TestCase):
    def check(self, bench, model):
        board = model.now().board()
        self.assertEqual(bench.board(), board)
        corners = shapes_of(board)
        self.assertEqual(all_shapes(bench), corners)
        for i, row in enumerate(corners):
            for j, shape in enumerate(row):
                for count in (1, 2, 24):
                    self.assertEqual(bench.most(count, i, j), sum(shape[:count]))
        self.assertEqual(bench.grown(), model.grown)
        self.assertEqual(bench.changes(), model.at)
        self.assertEqual(bench.undone(), len(model.states) - 1 - model.at)

    def assert_raises_and_stays(self, error, bench, name, *arguments):
        before = seen(bench)
        with self.subTest(name=name, arguments=arguments), self.assertRaises(WalkhandsError) as caught:
            getattr(bench, name)(*arguments)
        self.assertIs(type(caught.exception), error)
        self.assertEqual(seen(bench), before)


class TestNewBench(BenchTest):
    def test_boards_of_1_to_8_rows_and_columns(self):
        for rows in range(1, 9):
            for columns in range(1, 9):
                board = mixed_board(rows, columns, 1)
                bench = Bench(board)
                self.check(bench, Model(board))
                self.assertEqual(bench.grown(), rows * columns)
                self.assertEqual((bench.changes(), bench.undone()), (0, 0))

    def test_nothing_to_undo_or_redo(self):
        bench = Bench(((1, 2), (3, 4)))
        before = seen(bench)
        self.assertIs(bench.undo(), False)
        self.assertIs(bench.redo(), False)
        self.assertEqual(seen(bench), before)
        self.assertEqual(bench.grown(), 4)

    def test_two_benches_are_apart(self):
        board = ((1, 2), (3, 4))
        one, other = Bench(board), Bench(board)
        one.put(1, 1, 9)
        one.remove_row(2)
        self.assertEqual(other.board(), ((1, 2), (3, 4)))
        self.assertEqual((other.changes(), other.undone(), other.grown()), (0, 0, 4))
        self.assertEqual(board, ((1, 2), (3, 4)))


class TestChanges(BenchTest):
    def test_put(self):
        bench = Bench(((1, 2), (3, 4)))
        self.assertIsNone(bench.put(1, 2, 5))
        self.assertEqual(bench.board(), ((1, 5), (3, 4)))
        self.assertEqual(all_shapes(bench), [[(), (), ()], [(), (1,), (6,)], [(), (4,), (10, 3)]])
        self.assertEqual((bench.grown(), bench.changes(), bench.undone()), (2, 1, 0))

    def test_put_in_each_cell_grows_what_is_below_and_to_the_right(self):
        board = mixed_board(8, 8, 2)
        for i in range(1, 9):
            for j in range(1, 9):
                bench = Bench(board)
                bench.put(i, j, (board[i - 1][j - 1] + 1) % 1001)
                # Another amount changes the size of each shape at or beyond its cell, and no other.
                self.assertEqual(bench.grown(), (9 - i) * (9 - j))
                self.assertEqual(all_shapes(bench), shapes_of(bench.board()))

    def test_put_the_amount_that_the_cell_has(self):
        bench = Bench(((1, 2), (3, 4)))
        for k, (i, j, amount) in enumerate(((1, 1, 1), (1, 2, 2), (2, 2, 4)), 1):
            bench.put(i, j, amount)
            self.assertEqual((bench.board(), bench.grown()), (((1, 2), (3, 4)), 0))
            self.assertEqual((bench.changes(), bench.undone()), (k, 0))
        self.assertIs(bench.undo(), True)
        self.assertEqual((bench.grown(), bench.changes(), bench.undone()), (0, 2, 1))
        bench.put(1, 1, 1)
        self.assertEqual((bench.changes(), bench.undone()), (3, 0))

    def test_put_the_least_and_the_greatest_amount(self):
        bench = Bench(((1, 2), (3, 4)))
        bench.put(1, 1, 0)
        bench.put(2, 2, 1000)
        self.assertEqual(bench.board(), ((0, 2), (3, 1000)))
        for amount in (-1, 1001, -1000, 5000):
            self.assert_raises_and_stays(WrongAmounts, bench, "put", 1, 1, amount)

    def test_insert_row(self):
        for at, board in (
            (1, ((7, 8, 9), (1, 2, 3), (4, 5, 6))),
            (2, ((1, 2, 3), (7, 8, 9), (4, 5, 6))),
            (3, ((1, 2, 3), (4, 5, 6), (7, 8, 9))),
        ):
            bench = Bench(((1, 2, 3), (4, 5, 6)))
            self.assertIsNone(bench.insert_row(at, (7, 8, 9)))
            self.assertEqual(bench.board(), board)
            self.assertEqual(all_shapes(bench), shapes_of(board))
            self.assertEqual(bench.grown(), 3 * (4 - at))

    def test_insert_column(self):
        for at, board in (
            (1, ((7, 1, 2), (8, 3, 4), (9, 5, 6))),
            (2, ((1, 7, 2), (3, 8, 4), (5, 9, 6))),
            (3, ((1, 2, 7), (3, 4, 8), (5, 6, 9))),
        ):
            bench = Bench(((1, 2), (3, 4), (5, 6)))
            self.assertIsNone(bench.insert_column(at, (7, 8, 9)))
            self.assertEqual(bench.board(), board)
            self.assertEqual(all_shapes(bench), shapes_of(board))
            self.assertEqual(bench.grown(), 3 * (4 - at))

    def test_remove_row(self):
        for at, board, grown in ((1, ((3, 4), (5, 6)), 4), (2, ((1, 2), (5, 6)), 2), (3, ((1, 2), (3, 4)), 0)):
            bench = Bench(((1, 2), (3, 4), (5, 6)))
            self.assertIsNone(bench.remove_row(at))
            self.assertEqual((bench.board(), bench.grown()), (board, grown))
            self.assertEqual(all_shapes(bench), shapes_of(board))

    def test_remove_column(self):
        for at, board, grown in ((1, ((2, 3), (5, 6)), 4), (2, ((1, 3), (4, 6)), 2), (3, ((1, 2), (4, 5)), 0)):
            bench = Bench(((1, 2, 3), (4, 5, 6)))
            self.assertIsNone(bench.remove_column(at))
            self.assertEqual((bench.board(), bench.grown()), (board, grown))
            self.assertEqual(all_shapes(bench), shapes_of(board))

    def test_rows_and_columns_of_amounts_from_0_to_1000(self):
        bench = Bench(((1, 2), (3, 4)))
        bench.insert_row(1, (0, 1000))
        bench.insert_column(3, (1000, 0, 1000))
        self.assertEqual(bench.board(), ((0, 1000, 1000), (1, 2, 0), (3, 4, 1000)))
        for name in ("insert_row", "insert_column"):
            for amounts in ((1, 1, -1), (-1, 1, 1), (1, 1001, 1), (1, 1, 1001)):
                self.assert_raises_and_stays(WrongAmounts, bench, name, 1, amounts)


class TestGrown(BenchTest):
    def test_an_inserted_row_was_not_there_before_even_if_it_is_equal_to_one(self):
        bench = Bench(((1, 2), (3, 4)))
        bench.insert_row(3, (3, 4))
        self.assertEqual(bench.grown(), 2)
        bench = Bench(((0, 0), (0, 0)))
        bench.insert_row(1, (0, 0))
        self.assertEqual(bench.grown(), 2)
        bench.insert_column(2, (0, 0, 0))
        self.assertEqual(bench.grown(), 3)

    def test_rows_after_an_inserted_one_have_moved(self):
        bench = Bench(((1, 2), (3, 4), (5, 6)))
        bench.insert_row(2, (0, 0))
        self.assertEqual((bench.board(), bench.grown()), (((1, 2), (0, 0), (3, 4), (5, 6)), 2))
        bench.remove_row(2)
        self.assertEqual((bench.board(), bench.grown()), (((1, 2), (3, 4), (5, 6)), 0))

    def test_columns_after_an_inserted_one_have_moved(self):
        bench = Bench(((1, 2, 3), (4, 5, 6)))
        bench.insert_column(3, (0, 0))
        self.assertEqual((bench.board(), bench.grown()), (((1, 2, 0, 3), (4, 5, 0, 6)), 2))
        bench.remove_column(3)
        self.assertEqual((bench.board(), bench.grown()), (((1, 2, 3), (4, 5, 6)), 0))

    def test_squares_to_the_left_of_the_first_amount_of_an_inserted_row_are_kept(self):
        bench = Bench(((1, 1, 1), (1, 1, 1)))
        bench.insert_row(1, (0, 5, 0))
        # Of each row that has moved, the square in column 1 has the shapes that it had.
        self.assertEqual(bench.grown(), 3 + 2 + 2)

    def test_squares_to_the_left_of_the_first_amount_of_a_removed_row_are_kept(self):
        bench = Bench(((0, 2), (3, 0), (1, 1)))
        bench.remove_row(1)
        self.assertEqual(bench.grown(), 2)

    def test_put_on_a_board_of_zeros(self):
        for row, column, grown in ((1, 1, 4), (1, 2, 2), (2, 1, 2), (2, 2, 1)):
            bench = Bench(((0, 0), (0, 0)))
            bench.put(row, column, 1)
            self.assertEqual(bench.grown(), grown)

    def test_rows_of_small_boards(self):
        for board in itertools.product(itertools.product((0, 1), repeat=2), repeat=3):
            for at in (1, 2, 3):
                bench, model = Bench(board), Model(board)
                bench.remove_row(at)
                model.change("remove_row", (at,))
                self.check(bench, model)

    def test_columns_of_small_boards(self):
        for board in itertools.product(itertools.product((0, 1), repeat=3), repeat=2):
            for at in (1, 2, 3):
                bench, model = Bench(board), Model(board)
                bench.remove_column(at)
                model.change("remove_column", (at,))
                self.check(bench, model)

    def test_only_what_lies_below_and_to_the_right_of_the_change(self):
        board = mixed_board(5, 6, 3)
        for at in range(1, 6):
            bench = Bench(board)
            bench.remove_row(at)
            self.assertLessEqual(bench.grown(), (5 - at) * 6)
            bench = Bench(board)
            bench.insert_row(at, (1,) * 6)
            self.assertLessEqual(bench.grown(), (7 - at) * 6)
            bench = Bench(board)
            bench.remove_column(at)
            self.assertLessEqual(bench.grown(), (6 - at) * 5)
            bench = Bench(board)
            bench.insert_column(at, (1,) * 5)
            self.assertLessEqual(bench.grown(), (8 - at) * 5)


class TestUndoAndRedo(BenchTest):
    def test_undo_and_redo_of_each_change(self):
        start = ((1, 2), (0, 0), (3, 4))
        for name, arguments in (
            ("put", (2, 2, 7)),
            ("insert_row", (2, (0, 0))),
            ("insert_row", (4, (5, 6))),
            ("remove_row", (2,)),
            ("remove_row", (1,)),
            ("insert_column", (1, (0, 0, 0))),
            ("insert_column", (3, (7, 8, 9))),
            ("remove_column", (1,)),
            ("remove_column", (2,)),
        ):
            bench, model = Bench(start), Model(start)
            getattr(bench, name)(*arguments)
            model.change(name, arguments)
            for _ in range(2):
                self.assertIs(bench.undo(), model.undo())
                self.check(bench, model)
                self.assertEqual(bench.board(), start)
                self.assertIs(bench.redo(), model.redo())
                self.check(bench, model)

    def test_grown_of_an_undone_change_counts_what_comes_back(self):
        bench = Bench(((1, 2), (0, 0), (3, 4)))
        bench.remove_row(2)
        self.assertEqual(bench.grown(), 0)
        self.assertIs(bench.undo(), True)
        self.assertEqual(bench.grown(), 2)
        self.assertIs(bench.redo(), True)
        self.assertEqual(bench.grown(), 0)
        bench.insert_column(1, (0, 0))
        self.assertEqual(bench.grown(), 2)
        self.assertIs(bench.undo(), True)
        self.assertEqual(bench.grown(), 0)
        self.assertIs(bench.redo(), True)
        self.assertEqual(bench.grown(), 2)

    def test_false_where_there_is_nothing_left(self):
        bench = Bench(((1, 2), (3, 4)))
        bench.put(2, 1, 5)
        before = seen(bench)
        self.assertIs(bench.redo(), False)
        self.assertEqual(seen(bench), before)
        self.assertIs(bench.undo(), True)
        before = seen(bench)
        self.assertIs(bench.undo(), False)
        self.assertEqual(seen(bench), before)
        self.assertEqual(bench.grown(), 2)
        self.assertEqual((bench.changes(), bench.undone()), (0, 1))

    def test_the_last_change_goes_first_and_comes_back_last(self):
        bench = Bench(((1,),))
        for amount in (2, 3, 4):
            bench.put(1, 1, amount)
        told = []
        for step in (bench.undo, bench.undo, bench.undo, bench.redo, bench.redo, bench.redo):
            self.assertIs(step(), True)
            told.append((bench.board()[0][0], bench.changes(), bench.undone()))
        self.assertEqual(told, [(3, 2, 1), (2, 1, 2), (1, 0, 3), (2, 1, 2), (3, 2, 1), (4, 3, 0)])

    def test_a_new_change_discards_what_could_be_redone(self):
        for name, arguments in (
            ("put", (1, 1, 9)),
            ("insert_row", (1, (5, 5))),
            ("remove_row", (2,)),
            ("insert_column", (1, (5, 5))),
            ("remove_column", (2,)),
        ):
            bench = Bench(((1, 2), (3, 4)))
            bench.put(1, 1, 5)
            bench.put(1, 1, 6)
            bench.undo()
            self.assertEqual((bench.changes(), bench.undone()), (1, 1))
            getattr(bench, name)(*arguments)
            self.assertEqual((bench.changes(), bench.undone()), (2, 0))
            before = seen(bench)
            self.assertIs(bench.redo(), False)
            self.assertEqual(seen(bench), before)
            self.assertIs(bench.undo(), True)
            self.assertEqual(bench.board(), ((5, 2), (3, 4)))

    def test_a_change_that_raises_discards_nothing(self):
        bench = Bench(((1, 2), (3, 4)))
        bench.put(1, 1, 5)
        bench.undo()
        self.assert_raises_and_stays(NoSuchRow, bench, "put", 3, 1, 5)
        self.assert_raises_and_stays(WrongAmounts, bench, "insert_column", 1, (1, 2, 3))
        self.assertIs(bench.redo(), True)
        self.assertEqual(bench.board(), ((5, 2), (3, 4)))


class TestHundredChanges(BenchTest):
    def test_99_100_and_101_changes(self):
        bench = Bench(((0, 0), (0, 0)))
        for k in range(1, 100):
            bench.put(1, 1, k)
        self.assertEqual(bench.changes(), 99)
        bench.insert_row(1, (1, 1))
        self.assertEqual(bench.changes(), 100)
        for name, arguments in (
            ("put", (1, 1, 1)),
            ("put", (1, 1, 9)),
            ("insert_row", (1, (1, 1))),
            ("remove_row", (1,)),
            ("insert_column", (1, (1, 1, 1))),
            ("remove_column", (1,)),
        ):
            self.assert_raises_and_stays(TooManyChanges, bench, name, *arguments)
        self.assertIs(bench.undo(), True)
        self.assertEqual((bench.changes(), bench.undone()), (99, 1))
        bench.remove_column(2)
        self.assertEqual((bench.changes(), bench.undone()), (100, 0))
        self.assert_raises_and_stays(TooManyChanges, bench, "remove_row", 1)

    def test_all_of_100_changes_can_be_undone_and_redone(self):
        bench = Bench(((0, 0), (0, 0)))
        for k in range(1, 101):
            bench.put(1 + k % 2, 1, k)
        last = bench.board()
        for k in range(100):
            self.assertEqual((bench.changes(), bench.undone()), (100 - k, k))
            self.assertIs(bench.undo(), True)
        self.assertIs(bench.undo(), False)
        self.assertEqual(bench.board(), ((0, 0), (0, 0)))
        for _ in range(100):
            self.assertIs(bench.redo(), True)
        self.assertIs(bench.redo(), False)
        self.assertEqual((bench.board(), bench.changes(), bench.undone()), (last, 100, 0))
        self.assert_raises_and_stays(TooManyChanges, bench, "put", 1, 1, 1)

    def test_other_errors_come_first(self):
        bench = Bench(((0,),))
        for _ in range(100):
            bench.put(1, 1, 0)
        self.assert_raises_and_stays(NoSuchRow, bench, "put", 2, 2, 1001)
        self.assert_raises_and_stays(NoSuchColumn, bench, "put", 1, 2, 1001)
        self.assert_raises_and_stays(WrongAmounts, bench, "put", 1, 1, 1001)
        self.assert_raises_and_stays(WrongAmounts, bench, "insert_row", 1, ())
        self.assert_raises_and_stays(WrongAmounts, bench, "insert_column", 1, (-1,))
        self.assert_raises_and_stays(WrongSize, bench, "remove_row", 1)
        self.assert_raises_and_stays(WrongSize, bench, "remove_column", 1)
        bench = Bench(((0,) * 8,) * 8)
        for _ in range(100):
            bench.put(1, 1, 0)
        self.assert_raises_and_stays(WrongSize, bench, "insert_row", 1, (0,) * 8)
        self.assert_raises_and_stays(WrongSize, bench, "insert_column", 1, (0,) * 8)


class TestErrors(BenchTest):
    def test_rows_and_columns_that_do_not_exist(self):
        bench = Bench(((1, 2, 3), (4, 5, 6)))
        for row in (0, 3, -1, 4):
            self.assert_raises_and_stays(NoSuchRow, bench, "put", row, 1, 1)
            self.assert_raises_and_stays(NoSuchRow, bench, "remove_row", row)
        for column in (0, 4, -1, 5):
            self.assert_raises_and_stays(NoSuchColumn, bench, "put", 1, column, 1)
            self.assert_raises_and_stays(NoSuchColumn, bench, "remove_column", column)
        for at in (0, 4, -1, 5):
            self.assert_raises_and_stays(NoSuchRow, bench, "insert_row", at, (1, 1, 1))
        for at in (0, 5, -1, 6):
            self.assert_raises_and_stays(NoSuchColumn, bench, "insert_column", at, (1, 1))

    def test_amounts_of_the_wrong_number(self):
        bench = Bench(((1, 2, 3), (4, 5, 6)))
        for amounts in ((), (1,), (1, 1), (1, 1, 1, 1)):
            self.assert_raises_and_stays(WrongAmounts, bench, "insert_row", 1, amounts)
        for amounts in ((), (1,), (1, 1, 1), (1, 1, 1, 1)):
            self.assert_raises_and_stays(WrongAmounts, bench, "insert_column", 1, amounts)

    def test_more_than_8_rows_or_columns(self):
        bench = Bench(((1,) * 7,) * 7)
        bench.insert_row(8, (1,) * 7)
        bench.insert_column(8, (1,) * 8)
        self.assertEqual(bench.board(), ((1,) * 8,) * 8)
        for at in (1, 5, 9):
            self.assert_raises_and_stays(WrongSize, bench, "insert_row", at, (1,) * 8)
            self.assert_raises_and_stays(WrongSize, bench, "insert_column", at, (1,) * 8)
        self.assert_raises_and_stays(NoSuchRow, bench, "insert_row", 10, (1,) * 8)
        self.assert_raises_and_stays(NoSuchColumn, bench, "insert_column", 10, (1,) * 8)
        bench.put(8, 8, 0)
        self.assertEqual(bench.shape(8, 8), shapes_of(bench.board())[8][8])

    def test_the_last_row_or_column_that_is_left(self):
        bench = Bench(((1, 2), (3, 4)))
        bench.remove_row(1)
        self.assert_raises_and_stays(WrongSize, bench, "remove_row", 1)
        self.assert_raises_and_stays(NoSuchRow, bench, "remove_row", 2)
        bench.remove_column(2)
        self.assert_raises_and_stays(WrongSize, bench, "remove_column", 1)
        self.assert_raises_and_stays(NoSuchColumn, bench, "remove_column", 2)
        self.assertEqual(bench.board(), ((3,),))
        bench.insert_row(1, (5,))
        bench.insert_column(1, (6, 7))
        self.assertEqual(bench.board(), ((6, 5), (7, 3)))

    def test_each_error_is_ahead_of_the_ones_behind_it(self):
        bench = Bench(((1,) * 8,) * 8)
        self.assert_raises_and_stays(NoSuchRow, bench, "put", 9, 9, -1)
        self.assert_raises_and_stays(NoSuchRow, bench, "put", 0, 1, -1)
        self.assert_raises_and_stays(NoSuchColumn, bench, "put", 8, 9, -1)
        self.assert_raises_and_stays(NoSuchRow, bench, "insert_row", 10, (1,))
        self.assert_raises_and_stays(WrongAmounts, bench, "insert_row", 9, (1,) * 7)
        self.assert_raises_and_stays(WrongAmounts, bench, "insert_row", 1, (1,) * 7 + (1001,))
        self.assert_raises_and_stays(NoSuchColumn, bench, "insert_column", 10, (1,))
        self.assert_raises_and_stays(WrongAmounts, bench, "insert_column", 9, (1,) * 9)
        self.assert_raises_and_stays(WrongAmounts, bench, "insert_column", 1, (-1,) + (1,) * 7)

    def test_corners_that_do_not_exist(self):
        bench = Bench(((1, 2, 3), (4, 5, 6)))
        for row, column in ((-1, 0), (0, -1), (3, 0), (0, 4), (3, 4), (-1, -1), (2, 4), (3, 3), (9, 9)):
            self.assert_raises_and_stays(NoSuchCorner, bench, "shape", row, column)
            self.assert_raises_and_stays(NoSuchCorner, bench, "most", 1, row, column)
        bench.remove_row(1)
        self.assert_raises_and_stays(NoSuchCorner, bench, "shape", 2, 0)
        bench.insert_column(1, (0,))
        self.assertEqual(bench.shape(1, 4), (15,))
        self.assert_raises_and_stays(NoSuchCorner, bench, "most", 24, 1, 5)


class TestMost(BenchTest):
    def test_sums_of_first_parts(self):
        bench = Bench(((1, 2), (3, 4)))
        self.assertEqual([bench.most(count, 2, 2) for count in (1, 2, 3, 24)], [8, 10, 10, 10])
        self.assertEqual([bench.most(count, 1, 2) for count in (1, 2, 24)], [3, 3, 3])
        self.assertEqual([bench.most(count, 0, 2) for count in (1, 2, 24)], [0, 0, 0])

    def test_each_corner_and_count_after_changes(self):
        bench = Bench(mixed_board(8, 7, 4))
        bench.put(2, 3, 1000)
        bench.insert_column(4, (5, 0, 7, 8, 0, 1, 2, 3))
        bench.remove_row(6)
        bench.undo()
        corners = shapes_of(bench.board())
        for i in range(9):
            for j in range(9):
                self.assertEqual(bench.shape(i, j), corners[i][j])
                for count in range(1, 25):
                    self.assertEqual(bench.most(count, i, j), sum(corners[i][j][:count]))

    def test_somewhat_beyond_the_limits(self):
        bench = Bench(((1, 2), (3, 4)))
        self.assertEqual([bench.most(count, 2, 2) for count in (25, 30, 0, -1)], [10, 10, 0, 0])


class TestManyChanges(BenchTest):
    def amount(self, chance):
        return chance.choice((9, 1000, -1, 1001) if chance.random() < 0.1 else (0, 0, 1, 2))

    def arguments(self, chance, model, name):
        rows, columns = len(model.now().rows), len(model.now().columns)
        row, column = chance.randint(0, rows + 2), chance.randint(0, columns + 2)
        if name == "put":
            return row, column, self.amount(chance)
        at = row if name.endswith("row") else column
        if name.startswith("remove"):
            return (at,)
        needed = (columns if name == "insert_row" else rows) + (chance.random() < 0.05)
        return at, tuple(self.amount(chance) for _ in range(needed))

    def test_mixed_changes_against_the_model(self):
        for seed in range(30):
            chance = random.Random(seed)
            board = mixed_board(chance.randint(1, 8), chance.randint(1, 8), seed, chance.choice((0, 1, 3, 1000)))
            bench, model = Bench(board), Model(board)
            for _ in range(60):
                name = chance.choice(CHANGES + ("undo", "redo"))
                if name in ("undo", "redo"):
                    self.assertIs(getattr(bench, name)(), getattr(model, name)())
                else:
                    arguments = self.arguments(chance, model, name)
                    error = model.wrong(name, arguments)
                    if error is None:
                        self.assertIsNone(getattr(bench, name)(*arguments))
                        model.change(name, arguments)
                    else:
                        self.assert_raises_and_stays(error, bench, name, *arguments)
                self.check(bench, model)


class TestBeyondAndResults(BenchTest):
    def test_somewhat_beyond_the_limits(self):
        board = mixed_board(9, 10, 5, 1500)
        bench = Bench(board)
        self.assertEqual(all_shapes(bench), shapes_of(board))
        self.assertEqual(bench.grown(), 90)
        bench.put(9, 10, 7)
        self.assertEqual((bench.board()[8][9], bench.grown()), (7, 1))
        bench.remove_row(9)
        self.assertEqual(bench.board(), board[:8])
        self.assertIs(bench.undo(), True)
        self.assertEqual(all_shapes(bench), shapes_of(bench.board()))

    def test_kinds_of_results(self):
        bench = Bench(((1, 2), (3, 4)))
        bench.insert_column(1, (5, 6))
        bench.insert_row(2, (7, 8, 9))
        bench.remove_column(2)
        bench.put(1, 1, 3)
        self.assertIs(type(bench.board()), tuple)
        for row in bench.board():
            self.assertIs(type(row), tuple)
        for value in (bench.grown(), bench.changes(), bench.undone(), bench.most(1, 1, 1)):
            self.assertIs(type(value), int)
        self.assertIs(type(bench.shape(2, 2)), tuple)


if __name__ == "__main__":
    unittest.main()

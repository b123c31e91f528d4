"""What the document promises over the whole program, and what it says before its first heading."""

import ast
import copy
import importlib
import itertools
import pathlib
import random
import unittest

from helpers import mixed_board, most_collected
from interface import FUNCTIONS
from walkhands.bench import Bench
from walkhands.corners import board_of, border_of, shapes_of
from walkhands.errors import WalkhandsError
from walkhands.heights import bound, judge, told_heights
from walkhands.stairs import amounts_above, put_in, stair_of, taken_off
from walkhands.tableaux import chain_of, pair_of, tableau_of, word_of, word_of_board
from walkhands.turning import transposed, turned
from walkhands.walks import best_family, collected

PACKAGE = pathlib.Path(__file__).resolve().parent.parent / "walkhands"
BOARD = ((3, 0, 2), (1, 4, 0))
CHAIN = [(), (2,), (3, 2), (6, 3)]
STAIR = ("RRRUU", [(), (4,), (8,), (8, 2), (5,), ()])
TABLEAU = ((1, 1, 3), (2,))

# For each function of the interface: arguments that it takes, and some for which it raises an error.
CALLS = {
    "is_shape": [((3, 1),), ((1, 3),)],
    "is_strip": [((3, 1), (2,)), ((2,), (3, 1))],
    "grow": [((2,), (3, 1), (2, 2), 1), ((2,), (1,), (2,), 0)],
    "shrink": [((3, 1), (2, 2), (4, 2, 1)), ((3,), (2,), (2,))],
    "is_chain": [(CHAIN,), ([(1,)],), ([],)],
    "toggled": [(CHAIN, 1), (CHAIN, 2), ([(), (2,), (3, 1), (4, 2)], 1), ([(), (1,)], 1)],
    "shapes_of": [(BOARD,), (((0,),),)],
    "border_of": [(BOARD,), (((0,),),)],
    "board_of": [border_of(BOARD), ([(), (1,)], [(), (2,)]), ([(), (1001,)], [(), (1001,)])],
    "is_tableau": [(TABLEAU,), (((2, 1),),)],
    "chain_of": [(TABLEAU, 3), (TABLEAU, 5), ((), 0), (TABLEAU, 2)],
    "tableau_of": [(CHAIN,), ([()],), ([(), (201,)],)],
    "insert": [(TABLEAU, 1), (((1,) * 200,), 1)],
    "take_out": [(TABLEAU, 2), (TABLEAU, 3)],
    "pair_of": [([3, 1, 1, 2],), ([],)],
    "word_of": [pair_of([3, 1, 1, 2]), ((), ()), (((1,),), ((2,),))],
    "word_of_board": [(BOARD, 2), (BOARD, 0)],
    "collected": [(BOARD, ((1, 3), (3, 3))), (BOARD, ())],
    "best_family": [(BOARD, 2, 2, 3)],
    "told_heights": [(BOARD, 1, 2, 3)],
    "bound": [(BOARD, ((0, 0), (0, 2)), 1), (BOARD, (), 1)],
    "judge": [(BOARD, ((1,),), ((0, 0), (0, 2))), (BOARD, (), ()), (BOARD, ((1,),), ())],
    "is_stair": [STAIR, ("RU", [()]), ("UR", [(), (), ()])],
    "taken_off": [STAIR + (2,), ("RU", [(), (), ()], 0), STAIR + (-1,), STAIR + (3,)],
    "put_in": [("RURU", [(), (4,), (1,), (3,), ()], 1, 4), ("UR", [(), (), ()], 0, 0), STAIR + (2, 1)],
    "stair_of": [(BOARD,), (((0,),),)],
    "amounts_above": [STAIR, ("UUR", [(), (), (), ()])],
    "transposed": [(BOARD,), (((0,),),)],
    "turned": [(BOARD,), (((0,),),)],
    "content_of": [(TABLEAU, 3), ((), 0), (TABLEAU, 2)],
    "tableaux_of": [((2, 1), (1, 1, 1)), ((), ()), ((1,), ())],
    "boards_of": [((2, 1), (1, 2)), ((0,), (0,)), ((1,), (2,))],
}


def lists_in(value):
    """All lists within a value, each as often as it is there."""
    if not isinstance(value, (list, tuple)):
        return []
    found = [value] if isinstance(value, list) else []
    return found + [held for item in value for held in lists_in(item)]


def answer(function, arguments):
    try:
        return function(*arguments)
    except WalkhandsError as error:
        return type(error)


def each_call():
    for module, functions in FUNCTIONS.items():
        for name in functions:
            for arguments in CALLS[name]:
                yield getattr(importlib.import_module(module), name), arguments


class TestEachFunction(unittest.TestCase):
    def test_the_stair_above_is_the_one_of_the_board(self):
        self.assertEqual(STAIR, stair_of(BOARD))

    def test_each_function_of_the_interface_is_called(self):
        self.assertEqual({name for functions in FUNCTIONS.values() for name in functions}, set(CALLS))

    def test_arguments_are_as_they_were(self):
        for function, arguments in each_call():
            with self.subTest(name=function.__name__, arguments=arguments):
                before = copy.deepcopy(arguments)
                answer(function, arguments)
                self.assertEqual(arguments, before)

    def test_the_same_answer_at_each_call(self):
        for function, arguments in each_call():
            with self.subTest(name=function.__name__, arguments=arguments):
                first = copy.deepcopy(answer(function, arguments))
                self.assertEqual(answer(function, copy.deepcopy(arguments)), first)
                self.assertEqual(answer(function, arguments), first)

    def test_returned_lists_are_new(self):
        many = 0
        for function, arguments in each_call():
            with self.subTest(name=function.__name__, arguments=arguments):
                answers = [answer(function, arguments), answer(function, arguments)]
                held = lists_in(answers) + lists_in(arguments)
                # All of them are alive, so each one has a number of its own unless it stands there twice.
                self.assertEqual(len({id(one) for one in held}), len(held))
                many += len(lists_in(answers[0]))
        self.assertGreater(many, 30)

    def test_changed_lists_change_no_later_answer(self):
        for function, arguments in each_call():
            with self.subTest(name=function.__name__, arguments=arguments):
                first = answer(function, arguments)
                kept = copy.deepcopy(first)
                for held in lists_in(first):
                    held.append("marked")
                self.assertEqual(answer(function, arguments), kept)


class TestNoOutside(unittest.TestCase):
    def test_no_clock_no_random_numbers_and_no_files(self):
        # Which modules may be imported is asked for in test_interface.
        barred = {"open", "input", "print", "exec", "eval", "compile", "globals", "vars", "id", "hash"}
        for path in PACKAGE.glob("*.py"):
            for node in ast.walk(ast.parse(path.read_text(encoding="utf-8"))):
                if isinstance(node, ast.Name):
                    with self.subTest(path=path.name, name=node.id):
                        self.assertNotIn(node.id, barred)
                        self.assertFalse(node.id.startswith("__"))


class TestWholePromise(unittest.TestCase):
    def test_the_first_parts_tell_what_the_walks_collect_at_each_cell(self):
        for seed in range(1, 4):
            board = mixed_board(4, 4, seed, (1, 9, 1000)[seed % 3])
            corners = shapes_of(board)
            for rows, columns in itertools.product(range(1, 5), repeat=2):
                for count in range(1, 5):
                    told = sum(corners[rows][columns][:count])
                    self.assertEqual(told, most_collected(board, count, rows, columns))

    def test_the_judge_accepts_what_the_parts_tell(self):
        for seed in range(1, 7):
            board = mixed_board(8, 8, seed, (1, 5, 1000)[seed % 3])
            corners = shapes_of(board)
            for rows, columns, count in itertools.product(range(1, 6), range(1, 6), (1, 2, 3)):
                family = best_family(board, count, rows, columns)
                heights = told_heights(board, count, rows, columns)
                most = sum(corners[rows][columns][:count])
                self.assertEqual(collected(board, family), most)
                self.assertEqual(bound(board, heights, count), most)
                self.assertIs(judge(board, family, heights), True)

    def test_no_family_that_the_judge_accepts_collects_less(self):
        accepted = 0
        for seed in range(200):
            chance = random.Random(seed)
            board = mixed_board(3, 3, seed, 2)
            count = chance.randint(1, 3)
            family = tuple(
                (*sorted(chance.randint(1, 3) for _ in range(2)), 3) for _ in range(count)
            )
            for heights in (told_heights(board, count, 3, 3), ((0,) * 4,) * 4):
                if judge(board, family, heights):
                    accepted += 1
                    self.assertEqual(collected(board, family), most_collected(board, count, 3, 3))
        self.assertGreater(accepted, 50)

    def test_the_bench_tells_the_same_after_changes(self):
        bench = Bench(mixed_board(3, 4, 1, 20))
        bench.put(2, 3, 17)
        bench.insert_row(2, (5, 0, 9, 1))
        bench.insert_column(5, (4, 4, 0, 30))
        bench.remove_column(1)
        bench.undo()
        board = bench.board()
        for rows, columns, count in itertools.product(range(1, 5), range(1, 6), (1, 2, 3)):
            heights = told_heights(board, count, rows, columns)
            self.assertEqual(bench.most(count, rows, columns), bound(board, heights, count))

    def test_the_board_is_recovered_from_its_border_its_stair_and_its_pair(self):
        for seed in range(1, 6):
            board = mixed_board(seed, 7 - seed, seed, 2)
            self.assertEqual(board_of(*border_of(board)), board)
            self.assertEqual(amounts_above(*stair_of(board)), [list(row) for row in board])
            word = word_of_board(board, len(board))
            first, second = pair_of(word)
            self.assertEqual(word_of(first, second), word)
            self.assertEqual(tuple(map(len, first)), shapes_of(board)[-1][-1])
            right, bottom = border_of(board)
            self.assertEqual(tableau_of(bottom), first)
            self.assertEqual(chain_of(first, len(board[0])), bottom)

    def test_a_square_of_the_stair_is_one_of_the_board(self):
        board = mixed_board(8, 8, 2)
        path, shapes = stair_of(board)
        less = board[:7] + (board[7][:7] + (0,),)
        taken = taken_off(path, shapes, 7)
        self.assertEqual(taken[2], board[7][7])
        self.assertEqual(put_in(taken[0], taken[1], 7, 0), stair_of(less))

    def test_the_parts_of_transposed_and_turned_boards(self):
        for seed in range(1, 4):
            board = mixed_board(4, 5, seed)
            for other in (transposed(board), turned(board), transposed(turned(board))):
                rows, columns = len(other), len(other[0])
                for count in (1, 2, 3):
                    most = sum(shapes_of(board)[4][5][:count])
                    self.assertEqual(bound(other, told_heights(other, count, rows, columns), count), most)


if __name__ == "__main__":
    unittest.main()

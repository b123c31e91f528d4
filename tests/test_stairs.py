"""Points 28 to 30: stairs, squares that are taken off or put in, and the amounts above."""

import copy
import itertools
import random
import unittest

from helpers import boards_with, is_strip_over, mixed_board, shapes_in_box
from walkhands.corners import shapes_of
from walkhands.errors import WrongPlace
from walkhands.shapes import grow, shrink
from walkhands.stairs import amounts_above, is_stair, put_in, stair_of, taken_off


def all_paths(rights, ups):
    """All paths of so many letters R and so many letters U."""
    return [
        "".join("R" if k in places else "U" for k in range(rights + ups))
        for places in itertools.combinations(range(rights + ups), rights)
    ]


SMALL_PATHS = [path for rights in (1, 2, 3) for ups in (1, 2, 3) for path in all_paths(rights, ups)]


def lengths_above(path):
    """How many cells each row has above the path, the first row first."""
    return [path[:k].count("R") for k, letter in enumerate(path) if letter == "U"][::-1]


def corners_of(path):
    """The corners that the path passes, from the lower left one of the board on."""
    row, column = path.count("U"), 0
    corners = [(row, column)]
    for letter in path:
        row, column = (row, column + 1) if letter == "R" else (row - 1, column)
        corners.append((row, column))
    return corners


def stair_by_corners(path, amounts):
    """The shapes along the path on a board with these amounts above it; the other cells do not matter."""
    columns = path.count("R")
    board = tuple(tuple(row) + (0,) * (columns - len(row)) for row in amounts)
    corners = shapes_of(board)
    return path, [corners[i][j] for i, j in corners_of(path)]


def put_together(path, amounts):
    """The stair, put together square by square from the path that has no cell above it."""
    rows, columns = path.count("U"), path.count("R")
    way, shapes = "U" * rows + "R" * columns, [()] * (rows + columns + 1)
    for i, row in enumerate(amounts):
        for j, amount in enumerate(row):
            way, shapes = put_in(way, shapes, index_of_corner(way, (i, j)) - 1, amount)
    return way, shapes


def index_of_corner(path, corner):
    return corners_of(path).index(corner)


def drawn_amounts(path, chance, limit):
    return [[chance.choice((0, chance.randint(0, limit))) for _ in range(k)] for k in lengths_above(path)]


def all_amounts(path, greatest):
    lengths = lengths_above(path)
    for flat in itertools.product(range(greatest + 1), repeat=sum(lengths)):
        flat = list(flat)
        yield [[flat.pop(0) for _ in range(length)] for length in lengths]


def places(path, way):
    return [k for k in range(len(path) - 1) if path[k:k + 2] == way]


def is_stair_by_the_words(path, shapes):
    return (
        set(path) == {"R", "U"}
        and path.count("R") <= 8
        and path.count("U") <= 8
        and len(shapes) == len(path) + 1
        and shapes[0] == shapes[-1] == ()
        and all(
            is_strip_over(after, before) if letter == "R" else is_strip_over(before, after)
            for letter, before, after in zip(path, shapes, shapes[1:])
        )
    )


class TestIsStair(unittest.TestCase):
    def check(self, path, shapes, expected):
        with self.subTest(path=path, shapes=shapes):
            self.assertIs(is_stair(path, shapes), expected)

    def test_ordinary_stairs(self):
        self.check("RRUU", [(), (4,), (8, 2), (3,), ()], True)
        self.check("RURU", [(), (4,), (1,), (3,), ()], True)
        self.check("URRU", [(), (), (1,), (3,), ()], True)
        self.check("RRU", [(), (2,), (2,), ()], True)

    def test_one_r_and_one_u(self):
        self.check("RU", [(), (), ()], True)
        self.check("RU", [(), (5,), ()], True)
        self.check("RU", [(), (5, 1), ()], False)
        self.check("UR", [(), (), ()], True)
        self.check("UR", [(), (1,), ()], False)

    def test_eight_of_each(self):
        empty = [()] * 17
        for path in ("R" * 8 + "U" * 8, "U" * 8 + "R" * 8, "RU" * 8, "UR" * 8):
            self.check(path, empty, True)
        path, shapes = stair_of(mixed_board(8, 8, 1))
        self.check(path, shapes, True)

    def test_a_path_without_r_or_without_u(self):
        self.check("", [()], False)
        self.check("", [], False)
        for k in (1, 2, 8):
            self.check("R" * k, [()] * (k + 1), False)
            self.check("U" * k, [()] * (k + 1), False)

    def test_a_path_with_another_letter(self):
        for path in ("RUX", "XRU", "RXU", "ru", "rU", "R U", "RU ", "RU\n", "RDU", "RUL", "01"):
            self.check(path, [()] * (len(path) + 1), False)
            self.check(path, [()] * 3, False)

    def test_nine_of_one_letter(self):
        for path in ("R" * 9 + "U", "R" + "U" * 9, "R" * 9 + "U" * 8, "R" * 8 + "U" * 9, "RU" * 9):
            self.check(path, [()] * (len(path) + 1), False)
        for path in ("R" * 8 + "U", "R" + "U" * 8):
            self.check(path, [()] * (len(path) + 1), True)

    def test_a_number_of_shapes_that_does_not_fit(self):
        self.check("RU", [], False)
        for many in range(1, 9):
            self.check("RU", [()] * many, many == 3)
            self.check("RURU", [()] * many, many == 5)
        self.check("RRUU", [(), (4,), (8, 2), (3,)], False)
        self.check("RRUU", [(), (4,), (8, 2), (3,), (), ()], False)

    def test_the_first_and_the_last_shape_are_empty(self):
        self.check("RU", [(1,), (1,), ()], False)
        self.check("RU", [(), (1,), (1,)], False)
        self.check("RU", [(1,), (1,), (1,)], False)
        self.check("UR", [(1,), (), ()], False)
        self.check("UR", [(), (), (1,)], False)

    def test_each_step_is_a_strip_in_its_direction(self):
        # R: the next one over the one before; U: the one before over the next one.
        self.check("RRUU", [(), (4,), (3,), (3,), ()], False)
        self.check("RRUU", [(), (4,), (4, 5), (4,), ()], False)
        self.check("RRUU", [(), (2,), (4, 3), (4,), ()], False)
        self.check("RRUU", [(), (3,), (4, 3), (2,), ()], False)
        self.check("RRUU", [(), (3,), (4, 3), (5,), ()], False)
        self.check("RRUU", [(), (3,), (4, 3), (3,), ()], True)
        self.check("RRUU", [(), (1, 1), (1, 1), (1,), ()], False)
        self.check("RRUU", [(), (1,), (1, 1), (1, 1), ()], False)
        self.check("RURU", [(), (1,), (2,), (2,), ()], False)
        self.check("RURU", [(), (2,), (1,), (), ()], False)

    def test_against_the_words(self):
        shapes = shapes_in_box(2, 2)
        found = 0
        for path in ("RU", "UR", "RRU", "RUU", "RUR", "URU", "RR", "UU", "RURU", "RRUU", "UURR", "RUX"):
            for held in itertools.product(shapes, repeat=len(path) + 1):
                expected = is_stair_by_the_words(path, list(held))
                found += expected
                if is_stair(path, list(held)) is not expected:
                    self.check(path, list(held), expected)
        self.assertGreater(found, 50)

    def test_somewhat_beyond_the_limits(self):
        self.check("RU", [(), (1000001,), ()], True)
        self.check("RU", [(), (1,) * 25, ()], False)


class TestTakenOffAndPutIn(unittest.TestCase):
    def test_ordinary_stairs(self):
        path, shapes = "RRUU", [(), (4,), (8, 2), (3,), ()]
        self.assertEqual(taken_off(path, shapes, 1), ("RURU", [(), (4,), (1,), (3,), ()], 4))
        path, shapes = "RURU", [(), (4,), (1,), (3,), ()]
        self.assertEqual(taken_off(path, shapes, 0), ("URRU", [(), (), (1,), (3,), ()], 3))
        self.assertEqual(taken_off(path, shapes, 2), ("RUUR", [(), (4,), (1,), (), ()], 2))
        self.assertEqual(put_in(path, shapes, 1, 4), ("RRUU", [(), (4,), (8, 2), (3,), ()]))
        self.assertEqual(put_in(path, shapes, 1, 0), ("RRUU", [(), (4,), (4, 2), (3,), ()]))
        self.assertEqual(put_in("URRU", [(), (), (1,), (3,), ()], 0, 3), (path, shapes))

    def test_one_r_and_one_u(self):
        for count in (0, 1, 1000, 1000000):
            shape = (count,) if count else ()
            self.assertEqual(taken_off("RU", [(), shape, ()], 0), ("UR", [(), (), ()], count))
            self.assertEqual(put_in("UR", [(), (), ()], 0, count), ("RU", [(), shape, ()]))

    def test_mu_is_the_shape_after_and_nu_the_one_before(self):
        path, shapes = stair_by_corners("RRUU", [[3, 1], [2, 2]])
        self.assertEqual(shapes, [(), (5,), (7, 1), (4,), ()])
        self.assertEqual(shrink((4,), (5,), (7, 1)), ((3,), 2))
        self.assertEqual(taken_off(path, shapes, 1), ("RURU", [(), (5,), (3,), (4,), ()], 2))

    def test_all_small_stairs(self):
        for path in SMALL_PATHS:
            limit = 2 if sum(lengths_above(path)) <= 4 else 1
            if sum(lengths_above(path)) > 6:
                continue
            for amounts in all_amounts(path, limit):
                self.check_stair(*stair_by_corners(path, amounts))

    def test_stairs_of_eight_each(self):
        for seed in range(40):
            chance = random.Random(seed)
            letters = list("R" * 8 + "U" * 8)
            chance.shuffle(letters)
            path = "".join(letters)
            self.check_stair(*stair_by_corners(path, drawn_amounts(path, chance, chance.choice((1, 9, 1000)))))
        self.check_stair(*stair_of(mixed_board(8, 8, 2)))
        self.check_stair("U" * 8 + "R" * 8, [()] * 17)

    def check_stair(self, path, shapes):
        """Each undoes the other at each place of the path, and what comes out is a stair."""
        self.assertTrue(is_stair(path, shapes))
        for k in places(path, "RU"):
            new_path, new_shapes, count = taken_off(path, shapes, k)
            self.check_square(new_path, new_shapes, path, shapes, k, count)
            self.assertEqual(put_in(new_path, new_shapes, k, count), (path, shapes))
        for k in places(path, "UR"):
            for count in (0, 1, 7, 1001):
                new_path, new_shapes = put_in(path, shapes, k, count)
                self.check_square(path, shapes, new_path, new_shapes, k, count)
                self.assertEqual(taken_off(new_path, new_shapes, k), (path, shapes, count))

    def check_square(self, path, shapes, full_path, full_shapes, k, count):
        """The first stair does not have the square, the second one has it."""
        self.assertTrue(is_stair(path, shapes))
        self.assertTrue(is_stair(full_path, full_shapes))
        self.assertEqual((path[k:k + 2], full_path[k:k + 2]), ("UR", "RU"))
        self.assertEqual(path[:k] + path[k + 2:], full_path[:k] + full_path[k + 2:])
        self.assertEqual(shapes[:k + 1] + shapes[k + 2:], full_shapes[:k + 1] + full_shapes[k + 2:])
        before, after = shapes[k], shapes[k + 2]
        self.assertGreaterEqual(count, 0)
        self.assertEqual(full_shapes[k + 1], grow(shapes[k + 1], after, before, count))
        self.assertEqual(shrink(after, before, full_shapes[k + 1]), (shapes[k + 1], count))

    def test_kinds_of_results(self):
        path, shapes = stair_of(mixed_board(3, 3, 3))
        taken = taken_off(path, shapes, 2)
        self.assertEqual([type(part) for part in taken], [str, list, int])
        self.assertIs(type(taken), tuple)
        put = put_in(taken[0], taken[1], 2, 0)
        self.assertEqual([type(part) for part in put], [str, list])
        self.assertIs(type(put), tuple)
        for shape in taken[1] + put[1]:
            self.assertIs(type(shape), tuple)

    def test_somewhat_beyond_the_limits(self):
        board = mixed_board(9, 10, 4, 2000)
        path, shapes = stair_of(board)
        new_path, new_shapes, count = taken_off(path, shapes, 9)
        self.assertEqual(count, board[8][9])
        self.assertEqual(put_in(new_path, new_shapes, 9, count), (path, shapes))


class TestWrongPlace(unittest.TestCase):
    def check_off(self, path, shapes, index):
        with self.subTest(path=path, index=index), self.assertRaises(WrongPlace) as caught:
            taken_off(path, shapes, index)
        self.assertIs(type(caught.exception), WrongPlace)

    def check_in(self, path, shapes, index, count=1):
        with self.subTest(path=path, index=index), self.assertRaises(WrongPlace) as caught:
            put_in(path, shapes, index, count)
        self.assertIs(type(caught.exception), WrongPlace)

    def test_each_index_of_each_small_path(self):
        for path in SMALL_PATHS + ["RU" * 8, "UR" * 8, "R" * 8 + "U" * 8, "U" * 8 + "R" * 8]:
            shapes = [()] * (len(path) + 1)
            for index in range(-len(path) - 3, len(path) + 4):
                way = path[index:index + 2] if 0 <= index < len(path) - 1 else ""
                if way == "RU":
                    self.assertEqual(taken_off(path, shapes, index)[2], 0)
                else:
                    self.check_off(path, shapes, index)
                if way == "UR":
                    self.assertEqual(put_in(path, shapes, index, 0)[1], shapes)
                else:
                    self.check_in(path, shapes, index)
                    self.check_in(path, shapes, index, 0)

    def test_a_negative_index_names_no_steps(self):
        # Counted from the end, steps would go the right way at these.
        path, shapes = "URRU", [(), (), (1,), (3,), ()]
        for index in (-2, -4, -1, -3, -5, -100):
            self.check_off(path, shapes, index)
            self.check_in(path, shapes, index)
        self.check_off("RU", [(), (1,), ()], -2)
        self.check_in("UR", [(), (), ()], -2)
        self.check_off("UR", [(), (), ()], -1)
        self.check_in("RU", [(), (1,), ()], -1)

    def test_the_last_index_and_one_beyond_the_path(self):
        for index in (1, 2, 3, 100):
            self.check_off("RU", [(), (1,), ()], index)
            self.check_off("UR", [(), (), ()], index)
            self.check_in("RU", [(), (1,), ()], index)
            self.check_in("UR", [(), (), ()], index)

    def test_steps_that_go_another_way(self):
        path, shapes = stair_by_corners("RRUURRUU", [[1, 2, 3, 4], [5, 6, 7, 8], [9, 1], [2, 3]])
        self.assertEqual([path[k:k + 2] for k in (0, 2, 3)], ["RR", "UU", "UR"])
        for index in (0, 2, 3, 4, 6):
            self.check_off(path, shapes, index)
        for index in (0, 1, 2, 4, 5, 6):
            self.check_in(path, shapes, index)

    def test_a_path_without_a_cell_above_it(self):
        path, shapes = "UUURR", [()] * 6
        for index in range(6):
            self.check_off(path, shapes, index)
        for index in (0, 1, 3, 4, 5):
            self.check_in(path, shapes, index)


class TestStairOf(unittest.TestCase):
    def test_small_boards(self):
        self.assertEqual(stair_of(((1, 2), (3, 4))), ("RRUU", [(), (4,), (8, 2), (3,), ()]))
        self.assertEqual(stair_of(((5,),)), ("RU", [(), (5,), ()]))
        self.assertEqual(stair_of(((0,),)), ("RU", [(), (), ()]))

    def test_one_row_and_one_column(self):
        self.assertEqual(stair_of(((2, 0, 7),)), ("RRRU", [(), (2,), (2,), (9,), ()]))
        self.assertEqual(stair_of(((2,), (0,), (7,))), ("RUUU", [(), (9,), (2,), (2,), ()]))

    def test_it_is_the_stair_along_the_last_row_and_up_the_last_column(self):
        for rows, columns in itertools.product(range(1, 9), repeat=2):
            board = mixed_board(rows, columns, 5)
            stair = stair_of(board)
            self.assertIs(type(stair), tuple)
            path, shapes = stair
            self.assertIs(type(shapes), list)
            self.assertEqual(path, "R" * columns + "U" * rows)
            self.assertTrue(is_stair(path, shapes))
            corners = shapes_of(board)
            self.assertEqual(shapes, [corners[i][j] for i, j in corners_of(path)])
            self.assertEqual(amounts_above(path, shapes), [list(row) for row in board])

    def test_all_small_boards(self):
        for board in boards_with(2, 2, (0, 1, 2)) + boards_with(2, 3, (0, 1)) + boards_with(3, 2, (0, 5)):
            path, shapes = stair_of(board)
            self.assertTrue(is_stair(path, shapes))
            self.assertEqual(amounts_above(path, shapes), [list(row) for row in board])

    def test_somewhat_beyond_the_limits(self):
        board = mixed_board(9, 10, 6, 2000)
        path, shapes = stair_of(board)
        self.assertEqual(path, "R" * 10 + "U" * 9)
        self.assertEqual(amounts_above(path, shapes), [list(row) for row in board])
        self.assertIs(is_stair(path, shapes), False)


class TestAmountsAbove(unittest.TestCase):
    def test_ordinary_stairs(self):
        self.assertEqual(amounts_above("RRUU", [(), (4,), (8, 2), (3,), ()]), [[1, 2], [3, 4]])
        self.assertEqual(amounts_above("RURU", [(), (4,), (1,), (3,), ()]), [[1, 2], [3]])
        self.assertEqual(amounts_above("URRU", [(), (), (1,), (3,), ()]), [[1, 2], []])
        self.assertEqual(amounts_above("RUUR", [(), (4,), (1,), (), ()]), [[1], [3]])

    def test_paths_without_a_cell_above_them(self):
        for rows, columns in ((1, 1), (1, 8), (8, 1), (2, 3), (8, 8)):
            shapes = [()] * (rows + columns + 1)
            self.assertEqual(amounts_above("U" * rows + "R" * columns, shapes), [[]] * rows)

    def test_rows_without_a_cell_above(self):
        self.assertEqual(amounts_above("UURU", [(), (), (), (6,), ()]), [[6], [], []])
        self.assertEqual(amounts_above("URU", [(), (), (6,), ()]), [[6], []])
        self.assertEqual(amounts_above("RUR", [(), (6,), (), ()]), [[6]])

    def test_each_row_has_as_many_integers_as_cells_above_the_path(self):
        for path in SMALL_PATHS + all_paths(4, 4) + ["RU" * 8, "UR" * 8]:
            found = amounts_above(path, [()] * (len(path) + 1))
            self.assertEqual(found, [[0] * length for length in lengths_above(path)])

    def test_any_integers_above_any_path(self):
        for path in SMALL_PATHS:
            if sum(lengths_above(path)) <= 6:
                for amounts in all_amounts(path, 1):
                    self.check(path, amounts)
        for seed in range(60):
            chance = random.Random(seed)
            letters = list("R" * chance.randint(1, 8) + "U" * chance.randint(1, 8))
            chance.shuffle(letters)
            path = "".join(letters)
            self.check(path, drawn_amounts(path, chance, chance.choice((1, 9, 1000, 100000))))

    def check(self, path, amounts):
        stair = put_together(path, amounts)
        self.assertEqual(stair, stair_by_corners(path, amounts))
        self.assertTrue(is_stair(*stair))
        self.assertEqual(amounts_above(*stair), amounts)

    def test_whatever_the_order_in_which_squares_are_taken_off(self):
        for path in SMALL_PATHS:
            amounts = drawn_amounts(path, random.Random(path), 9)
            stair = put_together(path, amounts)
            self.check_orders(stair[0], stair[1], amounts, {})
        for seed in range(20):
            chance = random.Random(seed)
            board = mixed_board(6, 7, seed, 9)
            path, shapes = stair_of(board)
            while "RU" in path:
                k = chance.choice(places(path, "RU"))
                row, column = corners_of(path)[k + 1]
                path, shapes, count = taken_off(path, shapes, k)
                self.assertEqual(count, board[row - 1][column - 1])
            self.assertEqual((path, shapes), ("U" * 6 + "R" * 7, [()] * 14))

    def check_orders(self, path, shapes, amounts, seen):
        """Each path to which squares can be taken off has the same shapes in each order."""
        if path in seen:
            self.assertEqual(shapes, seen[path])
            return
        seen[path] = shapes
        for k in places(path, "RU"):
            row, column = corners_of(path)[k + 1]
            further_path, further_shapes, count = taken_off(path, shapes, k)
            self.assertEqual(count, amounts[row - 1][column - 1])
            self.check_orders(further_path, further_shapes, amounts, seen)

    def test_each_stair_is_the_only_one_with_its_amounts(self):
        shapes = shapes_in_box(2, 3)
        many = 0
        for path in SMALL_PATHS:
            if len(path) > 5:
                continue
            seen = {}
            for held in all_stairs(path, shapes):
                amounts = amounts_above(path, held)
                self.assertEqual(put_together(path, amounts), (path, held))
                self.assertNotIn(str(amounts), seen)
                seen[str(amounts)] = True
                many += 1
        self.assertGreater(many, 1000)

    def test_kinds_of_results(self):
        found = amounts_above(*stair_of(mixed_board(2, 3, 7)))
        self.assertIs(type(found), list)
        for row in found:
            self.assertIs(type(row), list)
            for amount in row:
                self.assertIs(type(amount), int)


def all_stairs(path, shapes):
    """All lists of shapes that make a stair with the path, of the given shapes."""
    found = [[()]]
    for letter in path:
        found = [
            held + [shape]
            for held in found
            for shape in shapes
            if (is_strip_over(shape, held[-1]) if letter == "R" else is_strip_over(held[-1], shape))
        ]
    return [held for held in found if held[-1] == ()]


class TestArgumentsAndResults(unittest.TestCase):
    def test_lists_that_are_passed_stay_as_they_were(self):
        path, shapes = stair_of(mixed_board(4, 5, 8))
        before = copy.deepcopy(shapes)
        is_stair(path, shapes)
        amounts_above(path, shapes)
        new_path, new_shapes, count = taken_off(path, shapes, 4)
        self.assertEqual(shapes, before)
        new_before = copy.deepcopy(new_shapes)
        put_in(new_path, new_shapes, 4, count)
        self.assertEqual(new_shapes, new_before)
        for index in (-1, 0, 8, 9):
            for call in (lambda: taken_off(path, shapes, index), lambda: put_in(path, shapes, index, 1)):
                with self.assertRaises(WrongPlace):
                    call()
        self.assertEqual(shapes, before)

    def test_returned_lists_are_new_at_each_call(self):
        board = mixed_board(3, 4, 9)
        path, shapes = stair_of(board)
        kept = list(shapes)
        taken = taken_off(path, shapes, 3)
        put = put_in(taken[0], taken[1], 3, taken[2])
        above = amounts_above(path, shapes)
        for held in (taken[1], put[1], above, above[0], stair_of(board)[1]):
            held.append("marked")
        self.assertEqual(shapes, kept)
        self.assertEqual(above[1:3], [list(row) for row in board[1:]])
        self.assertEqual(stair_of(board), (path, kept))
        self.assertEqual(amounts_above(path, kept), [list(row) for row in board])
        self.assertNotIn("marked", taken_off(path, kept, 3)[1])
        shapes.clear()
        self.assertEqual(stair_of(board), (path, kept))

    def test_lists_are_new_where_nothing_is_above_or_nothing_changes(self):
        shapes = [(), (), ()]
        for new in (taken_off("RU", shapes, 0)[1], put_in("UR", shapes, 0, 0)[1]):
            self.assertEqual(new, shapes)
            self.assertIsNot(new, shapes)
        empty = amounts_above("UUURR", [()] * 6)
        empty[0].append("marked")
        self.assertEqual(empty, [["marked"], [], []])
        self.assertEqual(amounts_above("UUURR", [()] * 6), [[], [], []])


if __name__ == "__main__":
    unittest.main()

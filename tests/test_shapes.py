"""Points 1 to 5: shapes, strips, the local rule in both directions, chains."""

import copy
import unittest

from helpers import chains_to, is_strip_over, padded, shapes_in_box, strips_over
from walkhands.errors import NotStrip
from walkhands.shapes import grow, is_chain, is_shape, is_strip, shrink, toggled

SMALL = shapes_in_box(3, 3)
# Strips over small shapes may have one part more and greater first parts.
LARGER = shapes_in_box(4, 4)


def grown_by_the_words(rho, mu, nu, count):
    length = max(len(rho), len(mu), len(nu)) + 2
    rho, mu, nu = padded(rho, length), padded(mu, length), padded(nu, length)
    parts = [max(mu[0], nu[0]) + count]
    for r in range(1, length):
        parts.append(max(mu[r], nu[r]) + min(mu[r - 1], nu[r - 1]) - rho[r - 1])
    return tuple(value for value in parts if value)


def toggled_by_the_words(lo, x, hi):
    length = max(len(lo), len(x), len(hi)) + 2
    lo, x, hi = padded(lo, length), padded(x, length), padded(hi, length)
    parts = [hi[0] + max(hi[1], lo[0]) - x[0]]
    for r in range(1, length - 1):
        parts.append(min(hi[r], lo[r - 1]) + max(hi[r + 1], lo[r]) - x[r])
    return tuple(value for value in parts if value)


class TestIsShape(unittest.TestCase):
    def check(self, row, expected):
        with self.subTest(row=row):
            self.assertIs(is_shape(row), expected)

    def test_ordinary_shapes(self):
        for row in ((1,), (5, 3, 1), (7, 2), (2, 1)):
            self.check(row, True)

    def test_the_empty_tuple_is_a_shape(self):
        self.check((), True)

    def test_equal_parts_may_follow_one_another(self):
        for row in ((2, 2), (1, 1, 1), (5, 3, 3, 1, 1)):
            self.check(row, True)

    def test_parts_do_not_ascend(self):
        for row in ((1, 2), (3, 1, 2), (2, 2, 3), (5, 4, 3, 4)):
            self.check(row, False)

    def test_parts_are_positive(self):
        for row in ((0,), (1, 0), (0, 0), (3, 2, 0), (-1,), (2, -1)):
            self.check(row, False)

    def test_at_most_24_parts(self):
        self.check((1,) * 23, True)
        self.check((1,) * 24, True)
        self.check((1,) * 25, False)
        self.check(tuple(range(24, 0, -1)), True)
        self.check(tuple(range(25, 0, -1)), False)
        self.check((1,) * 60, False)

    def test_parts_of_at_most_1000000(self):
        self.check((999999,), True)
        self.check((1000000,), True)
        self.check((1000001,), False)
        self.check((1000000,) * 24, True)
        self.check((1000001, 1), False)
        self.check((1000000, 1), True)

    def test_against_the_words(self):
        for a in range(-1, 4):
            for b in range(-1, 4):
                for c in range(-1, 4):
                    self.check((a, b, c), a >= b >= c >= 1)


class TestIsStrip(unittest.TestCase):
    def check(self, upper, lower, expected):
        with self.subTest(upper=upper, lower=lower):
            self.assertIs(is_strip(upper, lower), expected)

    def test_ordinary_strips(self):
        self.check((3, 1), (2,), True)
        self.check((2, 2), (2,), True)
        self.check((5, 3, 1), (3, 2), True)

    def test_each_shape_is_a_strip_over_itself(self):
        for shape in ((), (1,), (2, 2), (3, 3, 3), (4, 2, 1)):
            self.check(shape, shape, True)

    def test_over_the_empty_shape_only_one_part(self):
        self.check((9,), (), True)
        self.check((9, 1), (), False)
        self.check((1, 1), (), False)

    def test_no_part_may_be_less(self):
        self.check((), (1,), False)
        self.check((2,), (3,), False)
        self.check((4, 1), (4, 2), False)
        self.check((4,), (4, 2), False)
        self.check((2, 2), (2, 2, 1), False)

    def test_the_next_part_is_at_most_the_part_below(self):
        self.check((3, 2), (2,), True)
        self.check((3, 3), (2,), False)
        self.check((4, 4, 1), (4,), False)
        self.check((2, 2, 2), (2, 2), True)
        self.check((2, 2, 2), (2, 1), False)

    def test_the_greatest_shapes(self):
        self.check((1000000,) * 24, (1000000,) * 23, True)
        self.check((1000000,) * 24, (1000000,) * 22, False)
        self.check((1000000,) * 24, (999999,) * 24, False)

    def test_somewhat_beyond_the_limits(self):
        self.check((1,) * 30, (1,) * 29, True)
        self.check((1,) * 30, (1,) * 28, False)
        self.check((1000002,), (1000001,), True)

    def test_against_the_words(self):
        for upper in LARGER:
            for lower in LARGER:
                self.check(upper, lower, is_strip_over(upper, lower))


class TestGrow(unittest.TestCase):
    def test_the_example_of_the_document(self):
        self.assertEqual(grow((2,), (3, 1), (2, 2), 1), (4, 2, 1))

    def test_ordinary_shapes(self):
        self.assertEqual(grow((), (3,), (2,), 0), (3, 2))
        self.assertEqual(grow((), (3,), (2,), 4), (7, 2))
        self.assertEqual(grow((1,), (2,), (1, 1), 0), (2, 1))
        self.assertEqual(grow((4, 2, 1), (6, 3, 1), (5, 4, 2), 10), (16, 5, 3))

    def test_empty_shapes(self):
        self.assertEqual(grow((), (), (), 0), ())
        self.assertEqual(grow((), (), (), 5), (5,))
        self.assertEqual(grow((), (7,), (), 0), (7,))
        self.assertEqual(grow((), (), (7,), 2), (9,))

    def test_equal_parts(self):
        self.assertEqual(grow((3, 3), (3, 3, 3), (3, 3, 3), 0), (3, 3, 3, 3))
        self.assertEqual(grow((2, 2), (2, 2), (2, 2), 0), (2, 2))

    def test_the_greatest_shapes(self):
        below = (1000000,) * 23
        grown = grow(below, below + (1000000,), below + (999999,), 1)
        self.assertEqual(grown, (1000001,) + (1000000,) * 23 + (999999,))

    def test_somewhat_beyond_the_limits(self):
        self.assertEqual(grow((1,) * 30, (1,) * 31, (1,) * 31, 2), (3,) + (1,) * 31)
        self.assertEqual(grow((), (2000000,), (1000001,), 3000000), (5000000, 1000001))

    def test_not_strip_names_the_first_one(self):
        cases = (
            ((2,), (1,), (2,), "mu"),
            ((2,), (2,), (1,), "nu"),
            ((2,), (1,), (1,), "mu"),
            ((1,), (2, 2), (1,), "mu"),
            ((1,), (1,), (2, 2), "nu"),
            ((), (1, 1), (1, 1), "mu"),
            ((3, 1), (3,), (3, 1), "mu"),
            ((3, 1), (3, 1), (3,), "nu"),
        )
        for rho, mu, nu, name in cases:
            with self.subTest(rho=rho, mu=mu, nu=nu), self.assertRaises(NotStrip) as caught:
                grow(rho, mu, nu, 0)
            self.assertIs(type(caught.exception), NotStrip)
            self.assertEqual(caught.exception.name, name)

    def test_not_strip_for_each_small_pair(self):
        for rho in SMALL:
            for mu in SMALL:
                for nu in SMALL:
                    if is_strip_over(mu, rho) and is_strip_over(nu, rho):
                        continue
                    with self.assertRaises(NotStrip) as caught:
                        grow(rho, mu, nu, 1)
                    self.assertEqual(caught.exception.name, "nu" if is_strip_over(mu, rho) else "mu")

    def test_what_the_point_promises(self):
        for rho in SMALL:
            over = strips_over(rho, LARGER)
            for mu in over:
                for nu in over:
                    for count in (0, 1, 3):
                        self.check_grown(rho, mu, nu, count)

    def check_grown(self, rho, mu, nu, count):
        shape = grow(rho, mu, nu, count)
        self.assertEqual(shape, grown_by_the_words(rho, mu, nu, count))
        self.assertIs(type(shape), tuple)
        self.assertTrue(is_shape(shape))
        self.assertTrue(is_strip(shape, mu))
        self.assertTrue(is_strip(shape, nu))
        self.assertEqual(sum(shape), sum(mu) + sum(nu) + count - sum(rho))
        self.assertEqual(shrink(mu, nu, shape), (rho, count))


class TestShrink(unittest.TestCase):
    def test_ordinary_shapes(self):
        self.assertEqual(shrink((3, 1), (2, 2), (4, 2, 1)), ((2,), 1))
        self.assertEqual(shrink((6, 3, 1), (5, 4, 2), (16, 5, 3)), ((4, 2, 1), 10))
        self.assertEqual(shrink((6, 3, 1), (5, 4, 2), (16, 5, 3, 1)), ((4, 2), 10))
        self.assertEqual(shrink((3,), (2,), (7, 2)), ((), 4))

    def test_empty_shapes(self):
        self.assertEqual(shrink((), (), ()), ((), 0))
        self.assertEqual(shrink((), (), (5,)), ((), 5))
        self.assertEqual(shrink((), (5,), (5,)), ((), 0))

    def test_the_greatest_shapes(self):
        most = (1000000,) * 24
        self.assertEqual(shrink(most, most, most), (most, 0))
        self.assertEqual(shrink(most, most[:23], most), (most[:23], 0))

    def test_somewhat_beyond_the_limits(self):
        self.assertEqual(shrink((1,) * 31, (1,) * 31, (3,) + (1,) * 31), ((1,) * 30, 2))
        self.assertEqual(shrink((2000000,), (1000001,), (5000000, 1000001)), ((), 3000000))

    def test_it_returns_a_tuple_of_a_tuple_and_an_integer(self):
        result = shrink((3, 1), (2, 2), (4, 2, 1))
        self.assertIs(type(result), tuple)
        self.assertEqual(len(result), 2)
        self.assertIs(type(result[0]), tuple)
        self.assertIs(type(result[1]), int)

    def test_not_strip_names_the_first_one(self):
        cases = (
            ((3,), (2,), (2,), "mu"),
            ((2,), (3,), (2,), "nu"),
            ((3,), (3,), (2,), "mu"),
            ((1,), (2,), (2, 2), "mu"),
            ((2,), (1,), (2, 2), "nu"),
            ((1,), (1,), (2, 2), "mu"),
            ((), (1,), (1, 1), "mu"),
            ((1,), (), (1, 1), "nu"),
        )
        for mu, nu, shape, name in cases:
            with self.subTest(mu=mu, nu=nu, shape=shape), self.assertRaises(NotStrip) as caught:
                shrink(mu, nu, shape)
            self.assertIs(type(caught.exception), NotStrip)
            self.assertEqual(caught.exception.name, name)

    def test_what_the_point_promises(self):
        for mu in SMALL:
            for nu in SMALL:
                for shape in LARGER:
                    self.check_shrunk(mu, nu, shape)

    def check_shrunk(self, mu, nu, shape):
        if not (is_strip_over(shape, mu) and is_strip_over(shape, nu)):
            with self.assertRaises(NotStrip) as caught:
                shrink(mu, nu, shape)
            self.assertEqual(caught.exception.name, "nu" if is_strip_over(shape, mu) else "mu")
            return
        rho, count = shrink(mu, nu, shape)
        self.assertTrue(is_shape(rho))
        self.assertGreaterEqual(count, 0)
        self.assertTrue(is_strip(mu, rho))
        self.assertTrue(is_strip(nu, rho))
        self.assertEqual(grow(rho, mu, nu, count), shape)


class TestIsChain(unittest.TestCase):
    def check(self, shapes, expected):
        with self.subTest(shapes=shapes):
            self.assertIs(is_chain(shapes), expected)

    def test_chains(self):
        self.check([(), (2,), (3, 1), (4, 2)], True)
        self.check([(), (), (1,), (1,), (1, 1)], True)
        self.check([(), (1000000,), (1000000, 1000000)], True)

    def test_a_chain_of_one_shape(self):
        self.check([()], True)
        self.check([(1,)], False)

    def test_there_is_at_least_one_shape(self):
        self.check([], False)

    def test_the_first_shape_is_empty(self):
        self.check([(1,), (2,)], False)
        self.check([(1,), (1,), (1,)], False)

    def test_each_later_one_is_a_strip_over_the_one_before(self):
        self.check([(), (1, 1)], False)
        self.check([(), (2,), (1,)], False)
        self.check([(), (2,), (3, 3), (4, 3)], False)
        self.check([(), (2,), (3, 1), (4, 4)], False)
        self.check([(), (1,), (1, 1), (1,)], False)
        self.check([(), (1,), ()], False)

    def test_shapes_of_60_parts(self):
        chain = [(1,) * k for k in range(61)]
        self.check(chain, True)
        self.check(chain[:-1] + [(1,) * 58], False)

    def test_against_the_words(self):
        shapes = shapes_in_box(2, 2)
        for first in shapes:
            for second in shapes:
                for third in shapes:
                    steps = is_strip_over(second, first) and is_strip_over(third, second)
                    self.check([first, second, third], first == () and steps)


class TestToggled(unittest.TestCase):
    def test_ordinary_chains(self):
        self.assertEqual(toggled([(), (3,), (3, 1)], 1), [(), (1,), (3, 1)])
        self.assertEqual(toggled([(), (1,), (3, 1)], 1), [(), (3,), (3, 1)])
        self.assertEqual(toggled([(), (2,), (3, 1), (4, 2)], 1), [(), (2,), (3, 1), (4, 2)])
        self.assertEqual(toggled([(), (2,), (3, 1), (7, 2)], 2), [(), (2,), (6, 1), (7, 2)])
        self.assertEqual(toggled([(), (2,), (4, 2), (4, 2, 1)], 2), [(), (2,), (2, 1), (4, 2, 1)])

    def test_an_index_next_to_either_end(self):
        chain = [(), (2,), (3, 2), (6, 3), (7, 4, 1)]
        self.assertEqual(toggled(chain, 1), [(), (3,), (3, 2), (6, 3), (7, 4, 1)])
        self.assertEqual(toggled(chain, 3), [(), (2,), (3, 2), (5, 2, 1), (7, 4, 1)])

    def test_empty_shapes(self):
        self.assertEqual(toggled([(), (), ()], 1), [(), (), ()])
        self.assertEqual(toggled([(), (), (4,)], 1), [(), (4,), (4,)])
        self.assertEqual(toggled([(), (4,), (4,)], 1), [(), (), (4,)])

    def test_shapes_of_60_parts(self):
        chain = [(1,) * k for k in range(61)]
        self.assertEqual(toggled(chain, 59), chain)
        chain.append((1,) * 60)
        self.assertEqual(toggled(chain, 60), chain[:60] + [(1,) * 59, (1,) * 60])

    def test_somewhat_beyond_the_limits_nothing_is_raised(self):
        self.assertEqual(toggled([(), (2000000,), (3000000,)], 1), [(), (1000000,), (3000000,)])
        chain = [(), (2,), (3, 2)]
        for index in (-1, 0, 2, 3):
            with self.subTest(index=index):
                self.assertEqual(toggled(chain, index), chain)

    def test_what_the_point_promises(self):
        shapes = shapes_in_box(3, 3)
        for end in shapes:
            for chain in chains_to(end, 3, shapes):
                for index in (1, 2):
                    self.check_toggled(chain, index)

    def test_long_chains(self):
        shapes = shapes_in_box(2, 2)
        for chain in chains_to((2, 2), 5, shapes):
            for index in range(1, 5):
                self.check_toggled(chain, index)

    def check_toggled(self, chain, index):
        new = toggled(chain, index)
        self.assertIs(type(new), list)
        self.assertTrue(is_chain(new))
        self.assertEqual(new[index], toggled_by_the_words(*chain[index - 1:index + 2]))
        self.assertEqual(new[:index] + new[index + 1:], chain[:index] + chain[index + 1:])
        self.assertTrue(is_shape(new[index]))
        self.assertEqual(toggled(new, index), chain)


class TestArgumentsAndResults(unittest.TestCase):
    def test_lists_that_are_passed_stay_as_they_were(self):
        chain = [(), (2,), (3, 2), (6, 3), (7, 4, 1)]
        before = copy.deepcopy(chain)
        is_chain(chain)
        toggled(chain, 1)
        toggled(chain, 3)
        self.assertEqual(chain, before)

    def test_a_toggled_chain_is_a_new_list(self):
        # Toggling changes nothing in the first of these, and not at an end either.
        for chain, index in (([(), (2,), (3, 1), (4, 2)], 1), ([(), (3,), (3, 1)], 1), ([(), (1,)], 1)):
            before = list(chain)
            new = toggled(chain, index)
            self.assertIsNot(new, chain)
            self.assertIsNot(new, toggled(chain, index))
            new.append((9,))
            self.assertEqual(chain, before)


if __name__ == "__main__":
    unittest.main()

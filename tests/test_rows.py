"""right, times, back, power, order, odd, rank, unrank, like."""

import itertools
import math
import random
import unittest

from tests.callform import (
    HIGHEST, LOWEST, REFUSED, ROUNDS, TOP, ask, no_rows_of_16, number, row, with_list,
)

DRAWN = random.Random(2026)


def some_rows(n, count):
    rows = []
    while len(rows) < count:
        bells = list(range(n))
        DRAWN.shuffle(bells)
        rows.append(bells + ROUNDS[n:])
    return rows


def times(r, s):
    return [r[s[place]] for place in range(16)]


def factors(k, r):
    reached = ROUNDS
    for step in range(k):
        reached = times(reached, r)
    return reached


# Cycles of 3, 4, 5 and 4 places: the order is 60, and r, its inverse and its square all differ.
WHEEL = [1, 2, 0, 4, 5, 6, 3, 8, 9, 10, 11, 7, 13, 14, 15, 12]
# Cycles of 2, 3, 4 and 7 places: 84. Cycles of 4, 5 and 7 places: 140, the greatest order of 16.
EIGHTY_FOUR = [1, 0, 3, 4, 2, 6, 7, 8, 5, 10, 11, 12, 13, 14, 15, 9]
GREATEST = [1, 2, 3, 0, 5, 6, 7, 8, 4, 10, 11, 12, 13, 14, 15, 9]


class Right(unittest.TestCase):
    def test_rows_of_n(self):
        for n in range(3, 17):
            for r in [ROUNDS] + some_rows(n, 5):
                self.assertEqual(ask("right", n, r), number(1))
        self.assertEqual(ask("right", 3, row("321")), number(1))
        self.assertEqual(ask("right", 16, row("DCBATE0987654321")), number(1))

    def test_n_outside(self):
        for n in (0, 1, 2, 17, 18, 2 ** 32, TOP):
            self.assertEqual(ask("right", n, ROUNDS), number(0))

    def test_a_row_of_more_bells_is_none_of_fewer(self):
        for n in range(3, 16):
            moved = list(ROUNDS)
            moved[n - 1], moved[n] = n, n - 1
            self.assertEqual(ask("right", n, moved), number(0))
            self.assertEqual(ask("right", n + 1, moved), number(1))

    def test_places_behind_hold_their_own_numbers(self):
        self.assertEqual(ask("right", 4, [1, 0, 3, 2] + ROUNDS[4:14] + [15, 14]), number(0))
        self.assertEqual(ask("right", 15, ROUNDS[:15] + [16]), number(0))
        self.assertEqual(ask("right", 15, ROUNDS[:15] + [0]), number(0))

    def test_a_bell_twice(self):
        for n in range(3, 17):
            self.assertEqual(ask("right", n, [1] + ROUNDS[1:]), number(0))

    def test_no_rows(self):
        for r in no_rows_of_16():
            for n in (2, 3, 15, 16, 17):
                self.assertEqual(ask("right", n, r), number(0))

    def test_a_list_of_n_only(self):
        self.assertEqual(ask("right", 3, [0, 1, 2]), number(0))


class Times(unittest.TestCase):
    def test_product(self):
        r = row("2314")
        s = row("1243")
        self.assertEqual(ask("times", r, s), with_list(0, row("2341")))
        self.assertEqual(ask("times", s, r), with_list(0, row("2413")))

    def test_rounds_changes_nothing(self):
        for r in some_rows(16, 10):
            self.assertEqual(ask("times", r, ROUNDS), with_list(0, r))
            self.assertEqual(ask("times", ROUNDS, r), with_list(0, r))

    def test_many(self):
        for r, s in zip(some_rows(16, 30), some_rows(16, 30)):
            self.assertEqual(ask("times", r, s), with_list(0, times(r, s)))

    def test_refusals(self):
        for r in no_rows_of_16():
            self.assertEqual(ask("times", r, ROUNDS), REFUSED)
            self.assertEqual(ask("times", ROUNDS, r), REFUSED)
            self.assertEqual(ask("times", r, r), REFUSED)


class Back(unittest.TestCase):
    def test_the_last_place_counts(self):
        self.assertEqual(ask("back", row("2341")), with_list(0, row("4123")))
        turned = ROUNDS[1:] + [0]
        self.assertEqual(ask("back", turned), with_list(0, [15] + ROUNDS[:15]))

    def test_the_product_is_rounds(self):
        for r in some_rows(16, 30):
            back = ask("back", r)[3:]
            self.assertEqual(times(back, r), ROUNDS)
            self.assertEqual(ask("back", r), with_list(0, back))

    def test_refusals(self):
        for r in no_rows_of_16():
            self.assertEqual(ask("back", r), REFUSED)


class Power(unittest.TestCase):
    def test_small_powers(self):
        for r in [WHEEL, EIGHTY_FOUR, GREATEST] + some_rows(16, 5):
            back = ask("back", r)[3:]
            for k in range(0, 8):
                self.assertEqual(ask("power", k, r), with_list(0, factors(k, r)))
                self.assertEqual(ask("power", -k, r), with_list(0, factors(k, back)))

    def test_both_ends(self):
        for r in [ROUNDS, WHEEL, EIGHTY_FOUR, GREATEST] + some_rows(16, 5):
            order = ask("order", r)[0]
            back = ask("back", r)[3:]
            self.assertEqual(ask("power", HIGHEST, r), with_list(0, factors(HIGHEST % order, r)))
            self.assertEqual(ask("power", LOWEST, r), with_list(0, factors(-LOWEST % order, back)))

    def test_the_ends_by_squaring(self):
        reached = WHEEL
        for step in range(63):
            reached = times(reached, reached)
        back = ask("back", reached)[3:]
        self.assertEqual(ask("power", LOWEST, WHEEL), with_list(0, back))
        less_one = times(reached, ask("back", WHEEL)[3:])
        self.assertEqual(ask("power", HIGHEST, WHEEL), with_list(0, less_one))

    def test_refusals(self):
        for r in no_rows_of_16():
            for k in (LOWEST, -1, 0, 1, HIGHEST):
                self.assertEqual(ask("power", k, r), REFUSED)


class Order(unittest.TestCase):
    def test_orders(self):
        self.assertEqual(ask("order", ROUNDS), number(1))
        self.assertEqual(ask("order", row("213")), number(2))
        self.assertEqual(ask("order", row("231")), number(3))
        self.assertEqual(ask("order", ROUNDS[1:] + [0]), number(16))
        self.assertEqual(ask("order", ROUNDS[:14] + [15, 14]), number(2))
        self.assertEqual(ask("order", WHEEL), number(60))
        self.assertEqual(ask("order", EIGHTY_FOUR), number(84))
        self.assertEqual(ask("order", GREATEST), number(140))

    def test_it_is_the_least(self):
        for r in some_rows(16, 10) + some_rows(5, 10):
            order = ask("order", r)[0]
            self.assertEqual(factors(order, r), ROUNDS)
            for k in range(1, order):
                self.assertNotEqual(factors(k, r), ROUNDS)

    def test_refusals(self):
        for r in no_rows_of_16():
            self.assertEqual(ask("order", r), REFUSED)


class Odd(unittest.TestCase):
    def test_known(self):
        self.assertEqual(ask("odd", ROUNDS), number(0))
        self.assertEqual(ask("odd", row("213")), number(1))
        self.assertEqual(ask("odd", row("231")), number(0))
        self.assertEqual(ask("odd", row("321")), number(1))
        self.assertEqual(ask("odd", ROUNDS[:14] + [15, 14]), number(1))
        self.assertEqual(ask("odd", [15] + ROUNDS[1:15] + [0]), number(1))
        self.assertEqual(ask("odd", ROUNDS[::-1]), number(0))

    def test_by_cycles(self):
        for r in some_rows(16, 40):
            seen = []
            cycles = 0
            for start in range(16):
                if start not in seen:
                    cycles += 1
                while start not in seen:
                    seen.append(start)
                    start = r[start]
            self.assertEqual(ask("odd", r), number((16 - cycles) % 2))

    def test_refusals(self):
        for r in no_rows_of_16():
            self.assertEqual(ask("odd", r), REFUSED)


class Ranks(unittest.TestCase):
    def test_all_rows_of_few_bells(self):
        for n in (3, 4, 5):
            for rank, bells in enumerate(itertools.permutations(range(n))):
                r = list(bells) + ROUNDS[n:]
                self.assertEqual(ask("rank", n, r), number(rank))
                self.assertEqual(ask("unrank", n, rank), with_list(0, r))

    def test_first_and_last(self):
        for n in range(3, 17):
            last = ROUNDS[:n][::-1] + ROUNDS[n:]
            top = math.factorial(n) - 1
            self.assertEqual(ask("rank", n, ROUNDS), number(0))
            self.assertEqual(ask("rank", n, last), number(top))
            self.assertEqual(ask("unrank", n, 0), with_list(0, ROUNDS))
            self.assertEqual(ask("unrank", n, top), with_list(0, last))
            self.assertEqual(ask("unrank", n, top + 1), REFUSED)
            self.assertEqual(ask("unrank", n, TOP), REFUSED)

    def test_they_agree(self):
        for n in range(3, 17):
            for r in some_rows(n, 5):
                rank = ask("rank", n, r)[0]
                self.assertEqual(ask("unrank", n, rank), with_list(0, r))

    def test_a_rank_depends_on_n(self):
        swapped = [1, 0] + ROUNDS[2:]
        for n in range(3, 17):
            self.assertEqual(ask("rank", n, swapped), number(math.factorial(n - 1)))

    def test_rank_refuses(self):
        for n in (0, 1, 2, 17, TOP):
            self.assertEqual(ask("rank", n, ROUNDS), REFUSED)
        for r in no_rows_of_16():
            for n in (2, 3, 16, 17):
                self.assertEqual(ask("rank", n, r), REFUSED)
        self.assertEqual(ask("rank", 3, row("1243")), REFUSED)
        self.assertEqual(ask("rank", 3, ROUNDS[:14] + [15, 14]), REFUSED)

    def test_unrank_refuses(self):
        for n in (0, 1, 2, 17, 18, TOP):
            for k in (0, 1, TOP):
                self.assertEqual(ask("unrank", n, k), REFUSED)


class Like(unittest.TestCase):
    def test_the_same_and_any(self):
        self.assertEqual(ask("like", ROUNDS, ROUNDS), number(1))
        self.assertEqual(ask("like", ROUNDS, [255] * 16), number(1))
        for r in some_rows(16, 5):
            self.assertEqual(ask("like", r, r), number(1))
            for place in range(16):
                pattern = list(r)
                pattern[place] = 255
                self.assertEqual(ask("like", r, pattern), number(1))
                pattern[place] = (r[place] + 1) % 16
                self.assertEqual(ask("like", r, pattern), number(0))

    def test_one_place_differs(self):
        for place in range(16):
            pattern = [255] * 16
            pattern[place] = place
            self.assertEqual(ask("like", ROUNDS, pattern), number(1))
            pattern[place] = 254
            self.assertEqual(ask("like", ROUNDS, pattern), number(0))

    def test_255_stands_for_any_only_in_the_pattern(self):
        self.assertEqual(ask("like", [255] * 16, [255] * 16), number(1))
        self.assertEqual(ask("like", [255] * 16, ROUNDS), number(0))
        self.assertEqual(ask("like", [255] + ROUNDS[1:], ROUNDS), number(0))

    def test_lists_that_are_no_rows(self):
        self.assertEqual(ask("like", [TOP] * 16, [TOP] * 16), number(1))
        self.assertEqual(ask("like", [TOP] * 16, [255] * 16), number(1))
        self.assertEqual(ask("like", [TOP] * 16, [TOP - 1] + [TOP] * 15), number(0))
        self.assertEqual(ask("like", [3] * 16, [3] * 16), number(1))

    def test_refusals(self):
        for other in ([], ROUNDS[:15], list(range(17)), [255] * 300):
            self.assertEqual(ask("like", other, ROUNDS), REFUSED)
            self.assertEqual(ask("like", ROUNDS, other), REFUSED)
            self.assertEqual(ask("like", other, other), REFUSED)

"""ends, hunts, course and stay: what a block does to rows and bells."""

import random
import unittest

from tests.callform import (
    REFUSED, ROUNDS, TOP, ask, block, changes_of, hunting, no_blocks_of_4, no_rows_of_16, number, row, rung,
    with_list,
)

PLAIN_BOB = block(*["", "16"] * 5 + ["", "12"])
ALL_OF_16 = 2 ** 16 - 1
# Its head is of order 140, which none of 16 bells is above.
LONGEST = hunting(4, 5, 7) * 19 + [ALL_OF_16] * 2


def drawn_blocks(seed, most=40):
    """Some blocks on each number of bells."""
    drawn = random.Random(seed)
    for n in range(3, 17):
        choice = changes_of(n)
        for size in (1, 2, 3, 5, 8, 13, 24, 39, 40):
            if size <= most:
                yield n, [drawn.choice(choice) for step in range(size)]


def course_rows(n, changes):
    """Rounds and all rows of the course till a block's end is rounds, that one left out."""
    rows = rung(n, changes, ROUNDS)
    while rows[-1] != ROUNDS:
        rows.extend(rung(n, changes, rows[-1])[1:])
    return rows[:-1]


def longest_stay(n, rows):
    """The longest stay of a bell in the rows told, or 0 if one is at one place in all of them."""
    longest = 0
    for bell in range(n):
        places = [r.index(bell) for r in rows]
        if len(set(places)) == 1:
            return 0
        run = 1
        for before, place in zip(places, places[1:]):
            run = run + 1 if place == before else 1
            longest = max(longest, run)
    return max(longest, 1)


class Ends(unittest.TestCase):
    def test_known(self):
        self.assertEqual(ask("ends", 6, PLAIN_BOB, ROUNDS), with_list(0, row("135264")))
        self.assertEqual(ask("ends", 6, PLAIN_BOB, row("135264")), with_list(0, row("156342")))
        self.assertEqual(ask("ends", 6, PLAIN_BOB, row("654321")), with_list(0, row("642513")))
        self.assertEqual(ask("ends", 4, block(""), row("4321")), with_list(0, row("3412")))
        self.assertEqual(ask("ends", 3, block("3"), row("312")), with_list(0, row("132")))
        self.assertEqual(ask("ends", 4, block("", "14"), ROUNDS), with_list(0, row("2413")))

    def test_a_way_back_to_rounds(self):
        self.assertEqual(ask("ends", 4, block("", "14") * 4, ROUNDS), with_list(0, ROUNDS))
        self.assertEqual(ask("ends", 16, [ALL_OF_16], ROUNDS), with_list(0, ROUNDS))
        self.assertEqual(ask("ends", 16, [ALL_OF_16], ROUNDS[::-1]), with_list(0, ROUNDS[::-1]))

    def test_drawn(self):
        for n, changes in drawn_blocks(1):
            for r in (ROUNDS, ROUNDS[:n][::-1] + ROUNDS[n:], ROUNDS[1:n] + [0] + ROUNDS[n:]):
                self.assertEqual(ask("ends", n, changes, r), with_list(0, rung(n, changes, r)[-1]))

    def test_it_is_a_product_with_the_head(self):
        for n, changes in drawn_blocks(2, 8):
            r = ROUNDS[2:n] + [1, 0] + ROUNDS[n:]
            head = ask("ends", n, changes, ROUNDS)[3:]
            self.assertEqual(ask("ends", n, changes, r), ask("times", r, head))

    def test_refusals(self):
        for changes in no_blocks_of_4():
            self.assertEqual(ask("ends", 4, changes, ROUNDS), REFUSED)
            self.assertEqual(ask("ends", 4, changes, []), REFUSED)
        for r in no_rows_of_16():
            for n in (2, 4, 16, 17):
                self.assertEqual(ask("ends", n, [0], r), REFUSED)
        self.assertEqual(ask("ends", 4, [0], row("12354")), REFUSED)
        self.assertEqual(ask("ends", 4, [0], ROUNDS[:14] + [15, 14]), REFUSED)
        self.assertEqual(ask("ends", 3, [0], ROUNDS), REFUSED)
        for n in (0, 1, 2, 17, TOP):
            for changes in ([0], [1], [3], []):
                self.assertEqual(ask("ends", n, changes, ROUNDS), REFUSED)


class Hunts(unittest.TestCase):
    def test_known(self):
        self.assertEqual(ask("hunts", 6, PLAIN_BOB), number(1))
        self.assertEqual(ask("hunts", 6, block("")), number(0))
        self.assertEqual(ask("hunts", 4, block("14")), number(9))
        self.assertEqual(ask("hunts", 5, block("3")), number(4))
        self.assertEqual(ask("hunts", 3, block("1")), number(1))

    def test_all_bells_and_no_more(self):
        for n in range(3, 17):
            self.assertEqual(ask("hunts", n, [2 ** n - 1]), number(2 ** n - 1))
            self.assertEqual(ask("hunts", n, hunting(n) * n), number(2 ** n - 1))

    def test_drawn(self):
        for n, changes in drawn_blocks(3):
            head = rung(n, changes, ROUNDS)[-1]
            hunting_bells = sum(2 ** bell for bell in range(n) if head.index(bell) == bell)
            self.assertEqual(ask("hunts", n, changes), number(hunting_bells))


class Course(unittest.TestCase):
    def test_known(self):
        self.assertEqual(ask("course", 6, PLAIN_BOB), number(60))
        self.assertEqual(ask("course", 4, block("")), number(2))
        self.assertEqual(ask("course", 4, block("", "14")), number(8))
        self.assertEqual(ask("course", 3, block("3", "1")), number(6))
        self.assertEqual(ask("course", 3, block("123")), number(1))

    def test_its_own_way_back_to_rounds(self):
        self.assertEqual(ask("course", 4, block("", "14") * 4), number(8))
        self.assertEqual(ask("course", 4, block("", "")), number(2))
        self.assertEqual(ask("course", 4, [0] * 40), number(40))
        self.assertEqual(ask("course", 16, [ALL_OF_16] * 40), number(40))

    def test_rounds_within_a_block_does_not_count(self):
        self.assertEqual(ask("course", 4, block("", "", "")), number(6))

    def test_long(self):
        self.assertEqual(ask("course", 16, hunting(3, 5, 8)), number(240))
        self.assertEqual(ask("course", 16, LONGEST), number(5600))

    def test_drawn(self):
        for n, changes in drawn_blocks(4):
            self.assertEqual(ask("course", n, changes), number(len(course_rows(n, changes))))


class Stay(unittest.TestCase):
    def test_known(self):
        self.assertEqual(ask("stay", 6, PLAIN_BOB), number(2))
        self.assertEqual(ask("stay", 4, block("", "14")), number(2))
        self.assertEqual(ask("stay", 4, block("", "1234", "1234")), number(3))
        self.assertEqual(ask("stay", 3, block("3", "3", "1")), number(3))
        self.assertEqual(ask("stay", 3, block("3", "1")), number(2))

    def test_no_bell_stays(self):
        self.assertEqual(ask("stay", 4, block("")), number(1))
        self.assertEqual(ask("stay", 16, [0] * 40), number(1))

    def test_one_stays_for_ever(self):
        self.assertEqual(ask("stay", 4, block("14")), number(0))
        self.assertEqual(ask("stay", 4, block("14", "12")), number(0))
        self.assertEqual(ask("stay", 3, block("3")), number(0))
        self.assertEqual(ask("stay", 5, block("3")), number(0))
        self.assertEqual(ask("stay", 16, [ALL_OF_16]), number(0))
        self.assertEqual(ask("stay", 16, [2 ** 15 + 1] * 40), number(0))

    def test_for_ever_goes_before_a_long_stay(self):
        self.assertEqual(ask("stay", 5, block("1", "1", "123", "123")), number(0))
        self.assertEqual(ask("stay", 5, block("5", "5", "345", "345")), number(0))

    def test_a_bell_back_at_each_end_does_not_stay(self):
        changes = block("", "")
        self.assertEqual(ask("hunts", 4, changes), number(15))
        self.assertEqual(ask("stay", 4, changes), number(1))

    def test_over_the_end_of_the_course(self):
        hunted = block("", "14") * 4
        for changes in (block("1234") + hunted, hunted + block("1234")):
            once = course_rows(4, changes)
            self.assertEqual(len(once), len(changes))
            self.assertEqual(longest_stay(4, once), 2)
            self.assertEqual(ask("stay", 4, changes), number(3))

    def test_over_the_end_of_a_block_alone(self):
        changes = block("1", "1", "5", "1")
        self.assertLess(longest_stay(5, rung(5, changes, ROUNDS)[:-1]), ask("stay", 5, changes)[0])
        self.assertEqual(ask("stay", 5, changes), number(longest_stay(5, course_rows(5, changes) * 2)))

    def test_long(self):
        rows = course_rows(16, LONGEST)
        self.assertEqual(ask("stay", 16, LONGEST), number(longest_stay(16, rows * 2)))
        self.assertEqual(ask("stay", 16, [0] + [ALL_OF_16] * 39), number(40))

    def test_drawn(self):
        for n, changes in drawn_blocks(5):
            expected = longest_stay(n, course_rows(n, changes) * 2)
            self.assertEqual(ask("stay", n, changes), number(expected))

    def test_every_short_block_of_few_bells(self):
        for n in (3, 4):
            for first in changes_of(n):
                for second in changes_of(n):
                    for third in changes_of(n):
                        changes = [first, second, third]
                        expected = longest_stay(n, course_rows(n, changes) * 2)
                        self.assertEqual(ask("stay", n, changes), number(expected))


class Refusals(unittest.TestCase):
    def test_no_block(self):
        for name in ("hunts", "course", "stay"):
            for changes in no_blocks_of_4():
                self.assertEqual(ask(name, 4, changes), REFUSED)
            self.assertEqual(ask(name, 3, [0]), REFUSED)
            self.assertEqual(ask(name, 5, [1, 0]), REFUSED)
            self.assertEqual(ask(name, 16, [2 ** 16]), REFUSED)

    def test_n_outside(self):
        for name in ("hunts", "course", "stay"):
            for n in (0, 1, 2, 17, 18, TOP):
                for changes in ([], [0], [3], [TOP], [0] * 41):
                    self.assertEqual(ask(name, n, changes), REFUSED)

    def test_40_changes_are_a_block(self):
        for name in ("hunts", "course", "stay"):
            self.assertNotEqual(ask(name, 4, [0] * 40), REFUSED)
            self.assertEqual(ask(name, 4, [0] * 41), REFUSED)

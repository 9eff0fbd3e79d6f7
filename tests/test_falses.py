"""falses: from which rows a block has a row in common with itself from rounds."""

import itertools
import random
import unittest

from tests.callform import (
    REFUSED, ROUNDS, TOP, ask, block, changes_of, no_blocks_of_4, rung, with_list,
)

PLAIN_BOB = block(*["", "16"] * 5 + ["", "12"])
CAMBRIDGE = block("", "36", "", "14", "", "12", "", "36", "", "14", "", "56")
CAMBRIDGE = CAMBRIDGE + CAMBRIDGE[:-1][::-1] + block("12")


def falses_by_trying(n, changes):
    """The rows, in order: every row of n bells is tried."""
    own = {tuple(r) for r in rung(n, changes, ROUNDS)[:-1]}
    found = []
    for bells in itertools.permutations(range(n)):
        r = list(bells) + ROUNDS[n:]
        if any(tuple(other) in own for other in rung(n, changes, r)[:-1]):
            found.append(r)
    return found


def told(rows, start):
    """The answer that tells so many rows from a number on."""
    return with_list(len(rows), [bell for r in rows[start:start + 20] for bell in r])


class Falses(unittest.TestCase):
    def check(self, n, changes, rows):
        for start in (0, 1, 19, 20, 21, len(rows) - 1, len(rows), len(rows) + 1, 2 ** 63, TOP):
            self.assertEqual(ask("falses", n, start, changes), told(rows, start))

    def test_one_change(self):
        for n, changes in ((4, [0]), (3, [1]), (16, [2 ** 16 - 1])):
            self.check(n, changes, [ROUNDS])

    def test_two_changes(self):
        self.check(4, block("", "14"), [ROUNDS, [1, 0, 3, 2] + ROUNDS[4:]])
        self.check(4, block("14", ""), [ROUNDS, [0, 2, 1, 3] + ROUNDS[4:]])

    def test_not_turned_round(self):
        changes = block("", "14", "12")
        second, third = rung(4, changes, ROUNDS)[1:3]
        back = ask("back", third)[3:]
        between = ask("times", second, back)[3:]
        other = ask("times", third, second)[3:]
        rows = sorted([ROUNDS, second, third, back, between, other])
        self.check(4, changes, [r for place, r in enumerate(rows) if r not in rows[:place]])

    def test_rounds_is_always_one(self):
        self.assertEqual(ask("falses", 6, 0, PLAIN_BOB)[3:19], ROUNDS)

    def test_the_last_row_does_not_count(self):
        changes = block("3", "1", "3", "1", "3")
        rows = falses_by_trying(3, changes)
        self.assertEqual(len(rows), 6)
        self.check(3, changes, rows)
        self.check(4, block("", ""), [ROUNDS, [1, 0, 3, 2] + ROUNDS[4:]])

    def test_known_methods(self):
        self.check(6, PLAIN_BOB, falses_by_trying(6, PLAIN_BOB))
        rows = falses_by_trying(6, CAMBRIDGE)
        self.assertGreater(len(rows), 60)
        self.check(6, CAMBRIDGE, rows)

    def test_every_page(self):
        rows = falses_by_trying(6, CAMBRIDGE)
        paged = []
        for start in range(0, len(rows) + 20, 20):
            paged.extend(ask("falses", 6, start, CAMBRIDGE)[3:])
        self.assertEqual(paged, [bell for r in rows for bell in r])

    def test_drawn_on_few_bells(self):
        drawn = random.Random(6)
        for n in (3, 4, 5, 6):
            choice = changes_of(n)
            for size in (1, 2, 3, 4, 7, 40):
                changes = [drawn.choice(choice) for step in range(size)]
                self.check(n, changes, falses_by_trying(n, changes))

    def test_40_changes_on_16_bells(self):
        drawn = random.Random(7)
        choice = changes_of(16)
        changes = [drawn.choice(choice) for step in range(40)]
        own = [tuple(r) for r in rung(16, changes, ROUNDS)[:-1]]
        found = set()
        for before in own:
            for after in own:
                # The row that takes one to the other: bell before[place] becomes bell after[place].
                found.add(tuple(bell for was, bell in sorted(zip(before, after))))
        rows = [list(r) for r in sorted(found)]
        self.assertGreater(len(rows), 1000)
        self.check(16, changes, rows)

    def test_in_the_order_of_rank(self):
        ranks = []
        told_rows = ask("falses", 6, 7, CAMBRIDGE)[3:]
        for begin in range(0, len(told_rows), 16):
            ranks.append(ask("rank", 6, told_rows[begin:begin + 16])[0])
        self.assertEqual(len(ranks), 20)
        self.assertEqual(ranks, sorted(set(ranks)))


class FalsesRefuses(unittest.TestCase):
    def test_no_block(self):
        for start in (0, 1, TOP):
            for changes in no_blocks_of_4():
                self.assertEqual(ask("falses", 4, start, changes), REFUSED)
            self.assertEqual(ask("falses", 3, start, [0]), REFUSED)

    def test_n_outside(self):
        for n in (0, 1, 2, 17, 18, TOP):
            for changes in ([], [0], [3], [0] * 41):
                self.assertEqual(ask("falses", n, 0, changes), REFUSED)

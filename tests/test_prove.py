"""prove and music: whether touches are true, and how often their rows are like a pattern."""

import itertools
import random
import unittest

from tests.callform import (
    REFUSED, ROUNDS, TOP, ask_all, block, call, changes_of, hunting, number, opened, row, rung, with_list,
)

TRUE = number(0)
OPEN_END = number(1)
TOO_LONG = number(-2)
ANY = [255] * 16
# Rung in turn these two changes of 16 bells come to rounds after 240 rows, all of them other ones.
FIRST, SECOND = hunting(3, 5, 8)


def alike(first, second):
    return with_list(2, [first, second])


def proved(n, blocks, *touches):
    """The answers of prove to some touches on one book."""
    calls = opened(n, *blocks)
    return ask_all(*calls, *[call("prove", touch) for touch in touches])[len(calls):]


def music(n, blocks, touch, *patterns):
    """The answers of music to one touch with some patterns on one book."""
    calls = opened(n, *blocks)
    return ask_all(*calls, *[call("music", touch, pattern) for pattern in patterns])[len(calls):]


def touch_rows(n, blocks, touch):
    return rung(n, [m for called in touch for m in blocks[called]], ROUNDS)


def proved_by_pairs(n, blocks, touch):
    """The answer of prove: every pair of rows is looked at."""
    rows = touch_rows(n, blocks, touch)
    for second in range(len(rows)):
        for first in range(second):
            if rows[first] == rows[second] and (first, second) != (0, len(rows) - 1):
                return alike(first, second)
    return TRUE if rows[-1] == ROUNDS else OPEN_END


class Prove(unittest.TestCase):
    def test_the_empty_touch(self):
        self.assertEqual(proved(4, [], []), [TRUE])
        self.assertEqual(proved(4, [[0]], []), [TRUE])

    def test_rounds_at_the_very_end(self):
        hunt = block("", "14")
        self.assertEqual(proved(4, [hunt], [0] * 4), [TRUE])
        self.assertEqual(proved(4, [hunt * 4], [0]), [TRUE])
        self.assertEqual(proved(4, [block("1234")], [0]), [TRUE])

    def test_no_rounds_at_the_end(self):
        hunt = block("", "14")
        self.assertEqual(proved(4, [hunt], [0], [0, 0], [0, 0, 0]), [OPEN_END] * 3)

    def test_rounds_before_the_end(self):
        hunt = block("", "14")
        self.assertEqual(proved(4, [hunt], [0] * 5, [0] * 8, [0] * 100), [alike(0, 8)] * 3)
        self.assertEqual(proved(4, [block("", "", "", "")], [0]), [alike(0, 2)])
        self.assertEqual(proved(4, [block("1234")], [0, 0]), [alike(0, 1)])
        self.assertEqual(proved(4, [block("", ""), [0]], [0, 1]), [alike(0, 2)])

    def test_other_rows_alike(self):
        self.assertEqual(proved(4, [block("", "14", "14")], [0]), [alike(1, 3)])
        self.assertEqual(proved(4, [block("", "1234")], [0]), [alike(1, 2)])
        self.assertEqual(proved(4, [[0], block("14")], [0, 1, 1, 0]), [alike(1, 3)])

    def test_the_last_is_like_another_than_row_0(self):
        self.assertEqual(proved(4, [block("", "14"), block("14")], [0, 1]), [alike(1, 3)])

    def test_the_second_is_the_least(self):
        self.assertEqual(proved(4, [[0], block("14"), block("12")], [0, 1, 2, 2, 1, 0]), [alike(2, 4)])
        touch = [0, 1, 0, 0, 1, 1]
        self.assertEqual(proved(4, [[0], block("14")], touch), [alike(2, 4)])

    def test_a_fault_goes_before_the_end(self):
        self.assertEqual(proved(4, [[0], block("14")], [0, 1, 1, 0]), [alike(1, 3)])
        self.assertEqual(proved(4, [[0]], [0, 0]), [TRUE])
        self.assertEqual(proved(4, [[0]], [0, 0, 0]), [alike(0, 2)])

    def test_every_short_touch(self):
        blocks = [[0], block("14"), block("12", ""), block("1234")]
        touches = [list(touch) for size in range(5) for touch in itertools.product(range(4), repeat=size)]
        expected = [proved_by_pairs(4, blocks, touch) for touch in touches]
        self.assertEqual(proved(4, blocks, *touches), expected)

    def test_drawn_touches(self):
        drawn = random.Random(8)
        for n in range(3, 17):
            choice = changes_of(n)
            blocks = [[drawn.choice(choice) for step in range(size)] for size in (1, 1, 2, 2, 3, 5, 8, 13)]
            touches = [[drawn.randrange(8) for step in range(size)] for size in (1, 2, 3, 5, 8, 11, 17)]
            expected = [proved_by_pairs(n, blocks, touch) for touch in touches]
            self.assertEqual(proved(n, blocks, *touches), expected)

    def test_240_and_241_changes(self):
        blocks = [[FIRST, SECOND], [FIRST], [FIRST, SECOND] * 20]
        self.assertEqual(proved(16, blocks, [0] * 120, [2] * 6), [TRUE] * 2)
        self.assertEqual(proved(16, blocks, [0] * 119 + [1], [0] * 119), [OPEN_END] * 2)
        self.assertEqual(proved(16, blocks, [0] * 120 + [1], [1] + [0] * 120, [2] * 6 + [1]), [TOO_LONG] * 3)
        self.assertEqual(proved(16, blocks, [0] * 121, [0] * 240, [2] * 7, [2] * 240), [TOO_LONG] * 4)

    def test_240_and_241_calls(self):
        blocks = [[FIRST], [SECOND]]
        self.assertEqual(proved(16, blocks, [0, 1] * 120), [TRUE])
        self.assertEqual(proved(16, blocks, [0, 1] * 119 + [0]), [OPEN_END])
        self.assertEqual(proved(16, blocks, [0, 1] * 120 + [0]), [REFUSED])
        self.assertEqual(proved(16, blocks, [0] * 240, [0] * 241, [0] * 300), [alike(0, 2), REFUSED, REFUSED])

    def test_no_such_block(self):
        self.assertEqual(proved(4, [], [0], [TOP]), [REFUSED] * 2)
        self.assertEqual(proved(4, [[0], [0]], [2], [0, 1, 2], [2, 0], [TOP], [0] * 239 + [2]), [REFUSED] * 5)
        self.assertEqual(proved(4, [[0]] * 8, [8], [7]), [REFUSED, OPEN_END])

    def test_no_such_block_goes_before_too_long(self):
        self.assertEqual(proved(4, [[0] * 40], [0] * 7 + [1], [0] * 241, [0] * 7), [REFUSED, REFUSED, TOO_LONG])

    def test_it_changes_nothing(self):
        calls = [call("open", 4), call("block", block("", "14") * 4), call("begin"), call("search", 1)]
        calls += [call("prove", [0, 0]), call("prove", [9]), call("prove", [0] * 31), call("music", [0], ANY)]
        given = ask_all(*calls, call("touch"), call("search", 1))
        self.assertEqual(given[3:], [number(1), alike(0, 8), REFUSED, TOO_LONG, number(8), with_list(1, [0]), TRUE])


class Music(unittest.TestCase):
    def test_any_row(self):
        blocks = [block("", "14"), [0]]
        for touch, rows in (([], 0), ([0], 2), ([1], 1), ([0, 1, 0], 5)):
            self.assertEqual(music(4, blocks, touch, ANY), [number(rows)])

    def test_row_0_does_not_count(self):
        self.assertEqual(music(4, [block("", "14")], [], ROUNDS), [number(0)])
        self.assertEqual(music(4, [block("", "14")], [0] * 3, ROUNDS), [number(0)])
        self.assertEqual(music(4, [block("", "14")], [0] * 4, ROUNDS), [number(1)])
        self.assertEqual(music(4, [block("", "14")], [0] * 8, ROUNDS), [number(2)])

    def test_known(self):
        lead = block(*["", "16"] * 5 + ["", "12"])
        whole = [0] * 5
        leads = [0] + [255] * 15
        behind = [255] * 4 + [4, 5] + [255] * 10
        queens = row("135246")
        self.assertEqual(music(6, [lead], whole, leads), [number(10)])
        self.assertEqual(music(6, [lead], whole, behind), [number(self.count(6, [lead], whole, behind))])
        self.assertEqual(music(6, [lead], whole, queens), [number(self.count(6, [lead], whole, queens))])

    def count(self, n, blocks, touch, pattern):
        rows = touch_rows(n, blocks, touch)[1:]
        return sum(all(p in (b, 255) for b, p in zip(r, pattern)) for r in rows)

    def test_places_behind_n(self):
        blocks = [block("", "14")]
        self.assertEqual(music(4, blocks, [0], ANY[:4] + ROUNDS[4:]), [number(2)])
        self.assertEqual(music(4, blocks, [0], ANY[:15] + [14], ANY[:4] + [5] + ANY[5:]), [number(0)] * 2)

    def test_numbers_that_no_row_has(self):
        blocks = [block("", "14")]
        for value in (16, 254, 256, TOP):
            self.assertEqual(music(4, blocks, [0], [value] + ANY[1:], ANY[:15] + [value]), [number(0)] * 2)

    def test_drawn(self):
        drawn = random.Random(9)
        for n in range(3, 17):
            choice = changes_of(n)
            blocks = [[drawn.choice(choice) for step in range(size)] for size in (1, 2, 3, 5, 8, 13)]
            for size in (1, 2, 5, 15):
                touch = [drawn.randrange(6) for step in range(size)]
                patterns = []
                for place in range(n):
                    patterns.append(ANY[:place] + [drawn.randrange(n)] + ANY[place + 1:])
                patterns.append(touch_rows(n, blocks, touch)[-1])
                expected = [number(self.count(n, blocks, touch, pattern)) for pattern in patterns]
                self.assertEqual(music(n, blocks, touch, *patterns), expected)

    def test_a_touch_that_is_false(self):
        self.assertEqual(music(4, [[0]], [0] * 240, ANY, ROUNDS), [number(240), number(120)])

    def test_240_and_241_changes(self):
        blocks = [[FIRST, SECOND], [FIRST]]
        self.assertEqual(music(16, blocks, [0] * 120, ANY, ROUNDS), [number(240), number(1)])
        self.assertEqual(music(16, blocks, [0] * 120 + [1], ANY), [TOO_LONG])

    def test_240_and_241_calls(self):
        self.assertEqual(music(16, [[FIRST], [SECOND]], [0, 1] * 120, ANY), [number(240)])
        self.assertEqual(music(16, [[FIRST], [SECOND]], [0, 1] * 120 + [0], ANY), [REFUSED])

    def test_no_such_block(self):
        for touch in ([1], [0, 1], [TOP], [0] * 300):
            self.assertEqual(music(4, [[0]], touch, ANY), [REFUSED])
        self.assertEqual(music(4, [], [0], ANY), [REFUSED])

    def test_other_than_16_numbers(self):
        for pattern in ([], ANY[:15], ANY + [255], [255] * 300):
            for touch in ([], [0], [0] * 240):
                self.assertEqual(music(4, [[0]], touch, pattern), [REFUSED])

    def test_the_order_of_refusals(self):
        blocks = [[0] * 40]
        self.assertEqual(music(4, blocks, [0] * 7, [], ANY[:15], ANY), [TOO_LONG] * 3)
        self.assertEqual(music(4, blocks, [0] * 7 + [1], [], ANY), [REFUSED] * 2)
        self.assertEqual(music(4, blocks, [0] * 241, [], ANY), [REFUSED] * 2)
        self.assertEqual(music(4, blocks, [0] * 6, [], ANY), [REFUSED, number(240)])

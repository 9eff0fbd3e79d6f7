"""begin, search and touch: all true touches, each once, in one order."""

import itertools
import unittest

from tests.callform import (
    REFUSED, ROUNDS, ask_all, block, call, hunting, last, number, opened, rung, with_list,
)

OVER = number(0)
FOUND = number(1)
PAUSED = number(2)
DONE = number(0)
TOO_MANY = number(-2)
# By itself this block of 4 bells is true and ends in rounds, after 8 changes.
HUNT = block("", "14") * 4
# Its head is of order 4.
LEAD = block("", "14")
ON_3 = [block("1"), block("3")]
ON_4 = [block(""), block("14"), block("12")]
BOB_4 = [block("", "14", "", "14", "", "14", "", "12"), block("", "14", "", "14", "", "14", "", "14")]
GRANDSIRE_5 = [block("3", *["1", "5"] * 4, "1"), block("3", *["1", "5"] * 3, "1", "3", "1")]


def searched(calls, pieces):
    """What a new search on the book of these calls answers to each piece of tries, with the touch or None."""
    asked = [call("begin")]
    for tries in pieces:
        asked += [call("search", tries), call("touch")]
    given = ask_all(*calls, *asked)[len(calls) + 1:]
    told = []
    for answer, touch in zip(given[::2], given[1::2]):
        if answer == FOUND:
            assert touch[:3] == [len(touch) - 3, 0, len(touch) - 3]
            told.append((1, touch[3:]))
        else:
            assert touch == REFUSED
            told.append((answer[0], None))
    return told


def found(calls, pieces):
    """The touches that a new search finds in these pieces, and what it answers last."""
    told = searched(calls, pieces)
    return [touch for answer, touch in told if answer == 1], told[-1][0]


def is_true(n, blocks, touch):
    """By the words: a call, rounds at the end, no other two rows alike."""
    rows = [tuple(r) for r in rung(n, [m for called in touch for m in blocks[called]], ROUNDS)]
    return len(touch) > 0 and rows[-1] == tuple(ROUNDS) and len(set(rows[1:])) == len(rows) - 1


def all_true(n, blocks, low, high):
    """Every true touch of low to high changes, in order: all lists of calls are looked at."""
    shortest = min(len(changes) for changes in blocks)
    true = []
    for size in range(1, high // shortest + 1):
        for touch in itertools.product(range(len(blocks)), repeat=size):
            if low <= sum(len(blocks[called]) for called in touch) <= high and is_true(n, blocks, touch):
                true.append(list(touch))
    return sorted(true)


class Begin(unittest.TestCase):
    def test_it_answers_0(self):
        self.assertEqual(last(call("open", 4), call("begin")), DONE)
        self.assertEqual(last(*opened(4, HUNT), call("begin"), call("begin")), DONE)

    def test_without_blocks_all_is_over(self):
        for tries in (0, 1, 500):
            self.assertEqual(searched([call("open", 4)], [tries, tries]), [(0, None)] * 2)

    def test_a_new_search_begins_anew(self):
        calls = opened(4, HUNT, HUNT)
        given = ask_all(*calls, *[call("begin"), call("search", 1), call("touch")] * 2)[3:]
        self.assertEqual(given, [DONE, FOUND, with_list(1, [0])] * 2)
        ended = calls + [call("begin")] + [call("search", 9)] * 3
        self.assertEqual(last(*ended), OVER)
        self.assertEqual(searched(ended, [9, 9, 9]), [(1, [0]), (1, [1]), (0, None)])
        paused = opened(4, LEAD) + [call("begin"), call("search", 3)]
        self.assertEqual(last(*paused), PAUSED)
        self.assertEqual(searched(paused, [3, 1]), [(2, None), (1, [0] * 4)])

    def test_it_forgets_the_touch(self):
        calls = opened(4, HUNT) + [call("begin"), call("search", 1)]
        self.assertEqual(last(*calls, call("touch")), with_list(1, [0]))
        self.assertEqual(last(*calls, call("begin"), call("touch")), REFUSED)


class Search(unittest.TestCase):
    def test_found_and_over(self):
        self.assertEqual(searched(opened(4, HUNT), [1, 1, 1]), [(1, [0]), (0, None), (0, None)])
        self.assertEqual(searched(opened(4, HUNT), [500, 500]), [(1, [0]), (0, None)])

    def test_paused(self):
        self.assertEqual(searched(opened(4, LEAD), [1, 1, 1, 1, 1]), [(2, None)] * 3 + [(1, [0] * 4), (0, None)])
        self.assertEqual(searched(opened(4, LEAD), [3, 0, 1]), [(2, None), (2, None), (1, [0] * 4)])

    def test_over_again_and_again(self):
        told = searched(opened(3, *ON_3), [20] * 20)
        self.assertEqual([answer for answer, touch in told], [1] * 4 + [0] * 16)

    def test_0_tries(self):
        told = searched(opened(4, HUNT), [0] * 5 + [1] + [0] * 3)
        self.assertEqual(told, [(2, None)] * 5 + [(1, [0])] + [(0, None)] * 3)

    def test_0_tries_forget_the_touch(self):
        calls = opened(4, HUNT, HUNT) + [call("begin"), call("search", 1), call("search", 0), call("touch")]
        self.assertEqual(ask_all(*calls)[4:], [FOUND, PAUSED, REFUSED])

    def test_tries_left_over_are_not_kept(self):
        self.assertEqual(searched(opened(4, LEAD, HUNT), [500, 0, 1]), [(1, [0] * 4), (2, None), (2, None)])

    def test_how_many_tries_are_made(self):
        # Tried are 0, 00 (found), then 01, 010, 0100, 0101, 01010, 010100, 010101 (found).
        self.assertEqual(searched(opened(3, *ON_3), [9])[0], (1, [0, 0]))
        self.assertEqual(searched(opened(3, *ON_3), [2])[0], (1, [0, 0]))
        self.assertEqual(searched(opened(3, *ON_3), [1])[0], (2, None))
        self.assertEqual(searched(opened(3, *ON_3), [2, 7]), [(1, [0, 0]), (1, [0, 1] * 3)])
        self.assertEqual(searched(opened(3, *ON_3), [2, 6]), [(1, [0, 0]), (2, None)])
        for tries in range(1, 7):
            told = searched(opened(3, *ON_3), [2, tries, 7 - tries])
            self.assertEqual(told, [(1, [0, 0]), (2, None), (1, [0, 1] * 3)])

    def test_no_search(self):
        self.assertEqual(last(*opened(4, HUNT), call("search", 1)), REFUSED)
        self.assertEqual(last(*opened(4, HUNT), call("search", 500)), REFUSED)
        self.assertEqual(last(*opened(4, HUNT), call("search", 0)), REFUSED)

    def test_500_and_501_tries(self):
        calls = opened(4, HUNT) + [call("begin")]
        self.assertEqual(last(*calls, call("search", 500)), FOUND)
        self.assertEqual(last(*calls, call("search", 501)), TOO_MANY)
        self.assertEqual(last(*calls, call("search", 1000)), TOO_MANY)

    def test_too_many_goes_before_no_search(self):
        self.assertEqual(last(*opened(4, HUNT), call("search", 501)), TOO_MANY)
        self.assertEqual(last(call("open", 4), call("search", 1000)), TOO_MANY)

    def test_a_refused_search_changes_nothing(self):
        calls = opened(4, HUNT, HUNT) + [call("begin"), call("search", 1), call("search", 501)]
        self.assertEqual(last(*calls, call("touch")), with_list(1, [0]))
        self.assertEqual(ask_all(*calls, call("search", 1), call("touch"))[-2:], [FOUND, with_list(1, [1])])


class Touch(unittest.TestCase):
    def test_only_if_the_last_search_found_it(self):
        calls = opened(4, HUNT)
        self.assertEqual(last(*calls, call("touch")), REFUSED)
        self.assertEqual(last(*calls, call("begin"), call("touch")), REFUSED)
        self.assertEqual(last(*calls, call("search", 1), call("touch")), REFUSED)
        calls += [call("begin"), call("search", 1)]
        self.assertEqual(last(*calls, call("touch")), with_list(1, [0]))
        self.assertEqual(last(*calls, call("search", 1), call("touch")), REFUSED)

    def test_it_can_be_asked_again(self):
        calls = opened(4, LEAD) + [call("begin"), call("search", 4)] + [call("touch")] * 3
        self.assertEqual(ask_all(*calls)[-3:], [with_list(4, [0] * 4)] * 3)

    def test_240_calls(self):
        first, second = hunting(3, 5, 8)
        calls = opened(16, [first], [second]) + [call("lengths", 240, 240)]
        touch = [0, 1] * 120
        # A block rung twice is back where it was, so but for the first the other one is tried each second time.
        self.assertEqual(searched(calls, [400]), [(1, touch)])
        self.assertEqual(last(*calls, call("prove", touch)), DONE)


class EveryTrueTouch(unittest.TestCase):
    def check(self, n, blocks, low, high, pieces, true=None):
        if true is None:
            true = all_true(n, blocks, low, high)
        calls = opened(n, *blocks) + [call("lengths", low, high)]
        self.assertEqual(found(calls, pieces), (true, 0))
        return true

    def test_single_changes_on_3(self):
        true = self.check(3, ON_3, 1, 12, [40] * 20)
        self.assertEqual(true, [[0, 0], [0, 1] * 3, [1, 0] * 3, [1, 1]])

    def test_the_lengths_of_a_new_book(self):
        self.assertEqual(found(opened(3, *ON_3), [40] * 20), (all_true(3, ON_3, 1, 12), 0))

    def test_lengths_that_leave_some_out(self):
        for low, high in ((1, 2), (3, 6), (2, 6), (6, 6), (1, 5), (3, 5), (7, 12), (1, 1), (2, 2)):
            self.check(3, ON_3, low, high, [40] * 20)

    def test_with_a_change_that_makes_all_places(self):
        true = self.check(3, ON_3 + [block("123")], 1, 7, [40] * 20)
        self.assertIn([2], true)

    def test_single_changes_on_4(self):
        for low, high in ((1, 6), (4, 6), (6, 6), (3, 5)):
            self.check(4, ON_4, low, high, [9] * 100)
        true = self.check(4, ON_4[1:], 1, 12, [9] * 100)
        self.assertEqual(true, [[0, 0], [0, 1] * 3, [1, 0] * 3, [1, 1]])

    def test_leads_on_4(self):
        true = self.check(4, BOB_4, 1, 64, [40] * 20)
        self.assertEqual(true, [[0, 0, 0], [1]])

    def test_leads_on_5(self):
        true = self.check(5, GRANDSIRE_5, 1, 120, [100] * 10)
        self.assertGreater(len(true), 2)

    def test_blocks_of_other_lengths(self):
        blocks = [block("3"), block("1", "3"), block("1", "3", "1"), block("1")]
        for low, high in ((1, 6), (4, 6), (1, 5), (2, 2)):
            self.check(3, blocks, low, high, [20] * 50)

    def test_two_blocks_that_are_the_same(self):
        self.check(4, [LEAD, LEAD], 1, 8, [20] * 40)

    def test_8_blocks(self):
        blocks = [block("", "14"), block("14", ""), block("12", ""), block("", "12"), block("34", ""), block("", "34"),
                  block("1234"), block("12", "34")]
        self.check(4, blocks, 1, 4, [9] * 110)

    def test_to_high_and_not_above(self):
        self.check(4, [LEAD], 8, 8, [9] * 5, [[0] * 4])
        self.check(4, [LEAD], 1, 7, [9] * 5, [])
        self.check(4, [LEAD], 9, 240, [9] * 5, [])
        self.check(4, [HUNT], 8, 240, [9] * 5, [[0]])
        self.check(4, [HUNT], 9, 240, [9] * 5, [])

    def test_every_touch_that_is_found_is_proved(self):
        calls = opened(5, *GRANDSIRE_5)
        touches = found(calls, [100] * 10)[0]
        proofs = ask_all(*calls, *[call("prove", touch) for touch in touches])[len(calls):]
        self.assertEqual(proofs, [DONE] * len(touches))
        self.assertEqual(touches, sorted(touches))


class Pieces(unittest.TestCase):
    def check(self, calls, *cuts):
        results = [found(calls, pieces) for pieces in cuts]
        for result in results[1:]:
            self.assertEqual(result, results[0])
        self.assertEqual(results[0][1], 0)
        return results[0][0]

    def test_into_many(self):
        touches = self.check(opened(3, *ON_3), [100] * 10, [1] * 190, [2] * 190, [0, 1] * 95, [3, 0, 0, 5] * 40)
        self.assertEqual(len(touches), 4)

    def test_into_many_on_4(self):
        calls = opened(4, *ON_4) + [call("lengths", 1, 6)]
        touches = self.check(calls, [5] * 190, [1] * 10 + [2] * 90 + [10] * 80, [3] * 99 + [8] * 80)
        self.assertEqual(len(touches), 7)

    def test_into_many_with_bars(self):
        calls = opened(4, *ON_4) + [call("lengths", 1, 6), call("bar", 0, 1), call("bar", 2, 0), call("bar", 3, 2)]
        touches = self.check(calls, [5] * 190, [1] * 190, [4, 0, 2] * 60)
        self.assertGreater(len(touches), 2)


class Bars(unittest.TestCase):
    def check(self, n, blocks, high, bars, pieces):
        calls = opened(n, *blocks) + [call("lengths", 1, high)]
        calls += [call("bar", depth, barred) for depth, barred in bars]
        left = [touch for touch in all_true(n, blocks, 1, high)
                if not any(depth < len(touch) and touch[depth] == barred for depth, barred in bars)]
        self.assertEqual(found(calls, pieces), (left, 0))
        return left

    def test_at_a_depth(self):
        self.assertEqual(self.check(3, ON_3, 8, [(0, 0)], [20] * 20), [[1, 0] * 3, [1, 1]])
        self.assertEqual(self.check(3, ON_3, 8, [(1, 0)], [20] * 20), [[0, 1] * 3, [1, 1]])
        self.assertEqual(self.check(3, ON_3, 8, [(5, 1)], [20] * 20), [[0, 0], [1, 0] * 3, [1, 1]])
        self.assertEqual(len(self.check(3, ON_3, 8, [(6, 0), (239, 1)], [20] * 20)), 4)

    def test_all_at_a_depth(self):
        self.assertEqual(self.check(3, ON_3, 8, [(0, 0), (0, 1)], [20] * 20), [])
        self.assertEqual(self.check(3, ON_3, 8, [(2, 0), (2, 1)], [20] * 20), [[0, 0], [1, 1]])

    def test_many(self):
        bars = [(depth, depth % 3) for depth in range(8)] + [(depth, (depth + 1) % 3) for depth in range(4, 8)]
        self.check(4, ON_4, 8, bars, [9] * 100)
        self.check(4, ON_4, 6, bars[:3], [9] * 100)

    def test_what_is_barred_is_no_try(self):
        calls = opened(4, HUNT, HUNT, HUNT) + [call("bar", 0, 0), call("bar", 0, 1)]
        self.assertEqual(searched(calls, [1, 1]), [(1, [2]), (0, None)])
        calls = opened(4, HUNT, HUNT, HUNT) + [call("bar", 0, 1)]
        self.assertEqual(searched(calls, [1, 1, 0]), [(1, [0]), (1, [2]), (0, None)])

    def test_it_pauses_before_what_is_barred(self):
        calls = opened(4, HUNT, HUNT) + [call("bar", 0, 1)]
        self.assertEqual(searched(calls, [1, 0, 0, 1]), [(1, [0]), (2, None), (2, None), (0, None)])
        calls = opened(4, HUNT) + [call("bar", 0, 0)]
        self.assertEqual(searched(calls, [0, 1]), [(2, None), (0, None)])

    def test_a_refused_bar_bars_nothing(self):
        calls = opened(4, HUNT, HUNT) + [call("bar", depth, 0) for depth in range(100, 116)] + [call("bar", 0, 0)]
        self.assertEqual(last(*calls), number(-2))
        self.assertEqual(searched(calls, [1]), [(1, [0])])


class TheEndOfASearch(unittest.TestCase):
    FINDS = opened(4, HUNT, HUNT) + [call("bar", 7, 1), call("begin"), call("search", 1)]
    ENDS = (call("block", HUNT), call("lengths", 1, 240), call("lengths", 8, 8), call("bar", 0, 1), call("bar", 239, 0))
    LEAVES = (
        call("bar", 7, 1), call("bar", 0, 2), call("bar", 240, 0), call("block", []), call("block", [2]),
        call("lengths", 0, 9), call("lengths", 1, 241), call("prove", [0]), call("music", [0], [255] * 16),
        call("open", 2), call("touch"), call("right", 4, ROUNDS), call("hunts", 4, HUNT), call("search", 501),
    )

    def test_these_end_it(self):
        for one in self.ENDS:
            self.assertEqual(last(*self.FINDS, one, call("search", 1)), REFUSED)
            self.assertEqual(last(*self.FINDS, one, call("touch")), REFUSED)
            self.assertEqual(ask_all(*self.FINDS, one, call("search", 0), call("begin"), call("search", 1))[-3:],
                             [REFUSED, DONE, FOUND])

    def test_these_do_not(self):
        for one in self.LEAVES:
            self.assertEqual(last(*self.FINDS, one, call("touch")), with_list(1, [0]))
            given = ask_all(*self.FINDS, one, call("search", 1), call("touch"))
            self.assertEqual(given[-2:], [FOUND, with_list(1, [1])])

    def test_a_refused_ninth_block_does_not(self):
        calls = opened(4, *[HUNT] * 8) + [call("begin"), call("search", 1), call("block", HUNT)]
        self.assertEqual(ask_all(*calls, call("touch"), call("search", 1))[-3:], [TOO_MANY, with_list(1, [0]), FOUND])

    def test_a_refused_seventeenth_bar_does_not(self):
        calls = opened(4, HUNT, HUNT) + [call("bar", depth, 0) for depth in range(1, 17)]
        calls += [call("begin"), call("search", 1), call("bar", 20, 0)]
        self.assertEqual(ask_all(*calls, call("touch"), call("search", 1))[-3:], [number(-2), with_list(1, [0]), FOUND])

    def test_what_is_new_counts_in_the_next_search(self):
        calls = self.FINDS + [call("block", HUNT), call("bar", 0, 0), call("bar", 0, 1)]
        self.assertEqual(searched(calls, [9, 9]), [(1, [2]), (0, None)])

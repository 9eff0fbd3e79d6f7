"""open, block, lengths and bar: the book, and what there is no book for."""

import unittest

from tests.callform import (
    NO_BOOK, REFUSED, ROUNDS, TOP, ask, ask_all, block, call, last, no_blocks_of_4, number, opened, with_list,
)

DONE = number(0)
# A block of 4 bells that is true and ends in rounds by itself.
HUNT = block("", "14") * 4
NEED_A_BOOK = (
    call("block", HUNT),
    call("lengths", 1, 240),
    call("bar", 0, 0),
    call("begin"),
    call("search", 1),
    call("touch"),
    call("prove", []),
    call("music", [], [255] * 16),
)


class NoBook(unittest.TestCase):
    def test_each_call_at_the_beginning(self):
        for one in NEED_A_BOOK:
            self.assertEqual(ask_all(one), [NO_BOOK])
        self.assertEqual(ask_all(*NEED_A_BOOK), [NO_BOOK] * 8)

    def test_before_all_else(self):
        wrong = [
            call("block", []), call("block", [TOP] * 300), call("lengths", 0, TOP), call("bar", TOP, TOP),
            call("search", 501), call("prove", [0]), call("prove", [TOP] * 300),
            call("music", [0] * 241, []), call("music", [], [TOP] * 300),
        ]
        self.assertEqual(ask_all(*wrong), [NO_BOOK] * len(wrong))

    def test_a_refused_open_brings_none(self):
        for n in (0, 1, 2, 17, 18, TOP):
            for one in NEED_A_BOOK:
                self.assertEqual(ask_all(call("open", n), one), [REFUSED, NO_BOOK])

    def test_other_calls_need_none(self):
        given = ask_all(call("begin"), call("hunts", 4, [0]), call("ends", 4, [0], ROUNDS), call("begin"))
        self.assertEqual(given, [NO_BOOK, DONE, with_list(0, [1, 0, 3, 2] + ROUNDS[4:]), NO_BOOK])

    def test_none_is_left_from_the_time_before(self):
        for time in range(3):
            self.assertEqual(ask_all(call("begin"), call("open", 4), call("begin")), [NO_BOOK, DONE, DONE])


class Open(unittest.TestCase):
    def test_each_n(self):
        for n in range(3, 17):
            self.assertEqual(ask("open", n), DONE)
            self.assertEqual(last(call("open", n), call("block", [2 ** n - 1])), DONE)
            self.assertEqual(last(call("open", n), call("block", [2 ** n])), REFUSED)

    def test_n_outside(self):
        for n in (0, 1, 2, 17, 18, 2 ** 32 + 4, TOP):
            self.assertEqual(ask("open", n), REFUSED)

    def test_a_new_book_is_empty(self):
        self.assertEqual(last(call("open", 4), call("prove", [0])), REFUSED)
        self.assertEqual(last(call("open", 4), call("bar", 0, 0)), REFUSED)
        self.assertEqual(last(call("open", 4), call("search", 1)), REFUSED)
        self.assertEqual(last(call("open", 4), call("touch")), REFUSED)

    def test_a_second_time_the_blocks_are_gone(self):
        calls = opened(4, *[HUNT] * 8) + opened(4, HUNT)
        self.assertEqual(ask_all(*calls)[-2:], [DONE, DONE])
        self.assertEqual(last(*calls, call("prove", [1])), REFUSED)
        self.assertEqual(last(*calls, call("prove", [0])), DONE)

    def test_a_second_time_it_has_its_own_n(self):
        self.assertEqual(last(*opened(4, HUNT), call("open", 3), call("block", HUNT)), REFUSED)
        self.assertEqual(last(*opened(3, [1]), call("open", 4), call("block", HUNT)), DONE)

    def test_a_second_time_the_bars_are_gone(self):
        calls = opened(4, HUNT) + [call("bar", 0, 0)] + opened(4, HUNT)
        self.assertEqual(last(*calls, call("begin"), call("search", 1)), number(1))
        self.assertEqual(last(*calls, call("bar", 0, 0)), DONE)
        calls = opened(4, HUNT) + [call("bar", depth, 0) for depth in range(16)] + opened(4, HUNT)
        self.assertEqual(last(*calls, call("bar", 20, 0)), DONE)

    def test_a_second_time_the_lengths_are_1_to_240(self):
        for low, high in ((9, 240), (1, 7)):
            calls = opened(4, HUNT) + [call("lengths", low, high)]
            self.assertEqual(last(*calls, call("begin"), call("search", 9)), DONE)
            calls += opened(4, HUNT)
            self.assertEqual(last(*calls, call("begin"), call("search", 9)), number(1))

    def test_a_second_time_the_search_is_gone(self):
        calls = opened(4, HUNT) + [call("begin"), call("search", 1)]
        self.assertEqual(ask_all(*calls, call("open", 4), call("search", 1))[-2:], [DONE, REFUSED])
        self.assertEqual(ask_all(*calls, call("open", 4), call("touch"))[-2:], [DONE, REFUSED])

    def test_a_wrong_n_leaves_the_book(self):
        for n in (0, 2, 17, TOP):
            calls = opened(4, HUNT, HUNT) + [call("lengths", 8, 8), call("bar", 0, 0), call("begin"), call("search", 1)]
            calls += [call("open", n)]
            self.assertEqual(last(*calls), REFUSED)
            self.assertEqual(last(*calls, call("touch")), with_list(1, [1]))
            self.assertEqual(last(*calls, call("search", 1)), DONE)
            self.assertEqual(last(*calls, call("bar", 0, 0)), number(1))
            self.assertEqual(last(*calls, call("block", HUNT)), number(2))
            self.assertEqual(last(*calls, call("block", [31])), REFUSED)


class Block(unittest.TestCase):
    def test_numbers_rise(self):
        given = ask_all(*opened(4, *[HUNT] * 8))
        self.assertEqual(given, [DONE] + [number(value) for value in range(8)])

    def test_40_changes(self):
        self.assertEqual(last(*opened(4, [0] * 40)), DONE)
        self.assertEqual(last(*opened(4, [0] * 41)), REFUSED)

    def test_no_block(self):
        for changes in no_blocks_of_4():
            self.assertEqual(last(*opened(4, changes)), REFUSED)
        self.assertEqual(last(*opened(3, [0])), REFUSED)
        self.assertEqual(last(*opened(16, [2 ** 16])), REFUSED)
        self.assertEqual(last(*opened(16, [2 ** 16 - 1])), DONE)

    def test_a_refused_one_takes_no_number(self):
        given = ask_all(*opened(4, [2], HUNT, [], HUNT))
        self.assertEqual(given, [DONE, REFUSED, DONE, REFUSED, number(1)])

    def test_there_are_8(self):
        calls = opened(4, *[HUNT] * 8)
        self.assertEqual(last(*calls, call("block", HUNT)), number(-2))
        given = ask_all(*calls, call("block", HUNT), call("prove", [8]), call("prove", [7]))
        self.assertEqual(given[-2:], [REFUSED, DONE])

    def test_no_block_goes_before_8(self):
        for changes in no_blocks_of_4():
            self.assertEqual(last(*opened(4, *[HUNT] * 8), call("block", changes)), REFUSED)


class Lengths(unittest.TestCase):
    def test_right(self):
        for low, high in ((1, 1), (1, 240), (240, 240), (8, 9)):
            self.assertEqual(last(call("open", 4), call("lengths", low, high)), DONE)

    def test_refusals(self):
        for low, high in ((0, 0), (0, 1), (0, 240), (2, 1), (240, 239), (1, 241), (241, 241), (1, TOP), (TOP, TOP),
                          (TOP, 1), (0, TOP), (2 ** 64 - 240, 240)):
            self.assertEqual(last(call("open", 4), call("lengths", low, high)), REFUSED)

    def test_a_refused_one_leaves_them(self):
        calls = opened(4, HUNT) + [call("lengths", 9, 20), call("lengths", 1, 241), call("begin"), call("search", 9)]
        self.assertEqual(last(*calls), DONE)


class Bar(unittest.TestCase):
    def test_right(self):
        for depth in (0, 1, 239):
            self.assertEqual(last(*opened(4, HUNT, HUNT), call("bar", depth, 1)), DONE)

    def test_barred_already(self):
        calls = opened(4, HUNT, HUNT)
        given = ask_all(*calls, call("bar", 3, 1), call("bar", 3, 1), call("bar", 3, 0), call("bar", 1, 1))
        self.assertEqual(given[3:], [DONE, number(1), DONE, DONE])

    def test_refusals(self):
        calls = opened(4, HUNT, HUNT)
        for depth, barred in ((0, 2), (0, TOP), (240, 0), (241, 1), (TOP, 0), (TOP, TOP), (240, 2)):
            self.assertEqual(last(*calls, call("bar", depth, barred)), REFUSED)

    def test_16_bars(self):
        calls = opened(4, HUNT, HUNT) + [call("bar", depth, 1) for depth in range(16)]
        self.assertEqual(ask_all(*calls)[3:], [DONE] * 16)
        self.assertEqual(last(*calls, call("bar", 16, 1)), number(-2))
        self.assertEqual(last(*calls, call("bar", 0, 0)), number(-2))
        for depth in range(16):
            self.assertEqual(last(*calls, call("bar", depth, 1)), number(1))
        self.assertEqual(last(*calls, call("bar", 0, 2)), REFUSED)
        self.assertEqual(last(*calls, call("bar", 240, 0)), REFUSED)
        self.assertEqual(ask_all(*calls, call("bar", 16, 1), call("bar", 16, 1))[-2:], [number(-2)] * 2)

    def test_those_barred_already_count_once(self):
        calls = opened(4, HUNT) + [call("bar", 5, 0)] * 30 + [call("bar", depth, 0) for depth in range(100, 115)]
        self.assertEqual(last(*calls), DONE)
        self.assertEqual(last(*calls, call("bar", 200, 0)), number(-2))

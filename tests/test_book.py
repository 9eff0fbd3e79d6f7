"""answers(calls): the form of what is given back, and lists with several calls."""

import contextlib
import io
import unittest

from bellrowsdesk.book import answers
from tests.callform import ROUNDS, TOP, ask, bits, call, split

EACH_CALL = (
    call("right", 4, ROUNDS),
    call("change", 4, 0, ROUNDS),
    call("times", ROUNDS, [1, 0] + ROUNDS[2:]),
    call("back", [1, 2, 0] + ROUNDS[3:]),
    call("power", -1, [1, 2, 0] + ROUNDS[3:]),
    call("order", [1, 2, 0] + ROUNDS[3:]),
    call("odd", [1, 0] + ROUNDS[2:]),
    call("rank", 3, [2, 1, 0] + ROUNDS[3:]),
    call("unrank", 3, 5),
    call("like", ROUNDS, [255] * 16),
    call("row", "321"),
    call("text", 3, [2, 1, 0] + ROUNDS[3:]),
    call("read", 4, "&x14,12"),
    call("write", 4, 1, [0, 9, 0, 3]),
    call("ends", 4, [0, 9], [3, 2, 1, 0] + ROUNDS[4:]),
    call("hunts", 4, [9]),
    call("course", 4, [0, 9]),
    call("stay", 4, [0, 9]),
    call("falses", 4, 0, [0, 9]),
)

EACH_ANSWER = (
    [1, 0, 0],
    [0, 0, 16, 1, 0, 3, 2] + ROUNDS[4:],
    [0, 0, 16, 1, 0] + ROUNDS[2:],
    [0, 0, 16, 2, 0, 1] + ROUNDS[3:],
    [0, 0, 16, 2, 0, 1] + ROUNDS[3:],
    [3, 0, 0],
    [1, 0, 0],
    [5, 0, 0],
    [0, 0, 16, 2, 1, 0] + ROUNDS[3:],
    [1, 0, 0],
    [0, 0, 16, 2, 1, 0] + ROUNDS[3:],
    [3, 3, 51, 50, 49, 0],
    [4, 0, 4, 0, 9, 0, 3],
    [7, 7, 38, 120, 49, 52, 44, 49, 50, 0],
    [0, 0, 16, 2, 0, 3, 1] + ROUNDS[4:],
    [9, 0, 0],
    [8, 0, 0],
    [2, 0, 0],
    [2, 0, 32] + ROUNDS + [1, 0, 3, 2] + ROUNDS[4:],
)

# On one book, in the order of the calls' numbers from open on.
BOOK_CALLS = (
    call("open", 4),
    call("block", [0, 9]),
    call("lengths", 2, 8),
    call("bar", 7, 0),
    call("begin"),
    call("search", 4),
    call("touch"),
    call("prove", [0, 0, 0, 0, 0]),
    call("music", [0, 0, 0, 0], [0] + [255] * 15),
)

BOOK_ANSWERS = (
    [0, 0, 0],
    [0, 0, 0],
    [0, 0, 0],
    [0, 0, 0],
    [0, 0, 0],
    [1, 0, 0],
    [4, 0, 4, 0, 0, 0, 0],
    [2, 0, 2, 0, 8],
    [2, 0, 0],
)


def joined(lists):
    return [number for numbers in lists for number in numbers]


class TheForm(unittest.TestCase):
    def test_the_numbers_of_the_calls(self):
        for place, numbers in enumerate(EACH_CALL + BOOK_CALLS):
            self.assertEqual(numbers[0], place)
        self.assertEqual(len(EACH_CALL + BOOK_CALLS), 28)

    def test_by_hand(self):
        self.assertEqual(answers([0, 3, 0]), [3, 0, 0, 0])
        self.assertEqual(answers([0, 16, 16] + ROUNDS), [3, 1, 0, 0])
        self.assertEqual(answers([3, 0]), [3, -1, 0, 0])
        self.assertEqual(answers([8, 3, 1]), [19, 0, 0, 16, 0, 2, 1] + ROUNDS[3:])
        self.assertEqual(answers([11, 3, 16] + ROUNDS), [6, 3, 3, 49, 50, 51, 0])
        self.assertEqual(answers([12, 4, 3, 120, 49, 52]), [5, 2, 0, 2, 0, 9])
        self.assertEqual(answers([12, 4, 1, 46]), [5, -6, 0, 2, 1, 0])
        self.assertEqual(answers([12, 4, 2, 49, 51]), [5, -6, 0, 2, 2, 0])
        self.assertEqual(answers([12, 4, 513] + [120] * 513), [3, -2, 0, 0])
        self.assertEqual(answers([13, 4, 1, 1, 0]), [3, -5, 0, 0])

    def test_by_hand_on_blocks(self):
        turned = [3, 2, 1, 0] + ROUNDS[4:]
        self.assertEqual(answers([14, 4, 1, 0, 16] + turned), [19, 0, 0, 16, 2, 3, 0, 1] + ROUNDS[4:])
        self.assertEqual(answers([15, 4, 1, 9]), [3, 9, 0, 0])
        self.assertEqual(answers([16, 4, 2, 0, 9]), [3, 8, 0, 0])
        self.assertEqual(answers([17, 4, 2, 0, 9]), [3, 2, 0, 0])
        self.assertEqual(answers([18, 4, 0, 1, 9]), [19, 1, 0, 16] + ROUNDS)
        self.assertEqual(answers([18, 4, 1, 1, 9]), [3, 1, 0, 0])
        self.assertEqual(answers([18, 2, 1, 1, 9]), [3, -1, 0, 0])

    def test_by_hand_on_a_book(self):
        any_row = [16] + [255] * 16
        calls = [23, 19, 4, 20, 2, 0, 9, 21, 2, 8, 22, 7, 0, 23, 24, 3, 24, 1, 25, 26, 0, 26, 5, 0, 0, 0, 0, 0]
        calls += [27, 1, 0] + any_row + [19, 2, 26, 1, 0]
        given = [3, -8, 0, 0, 3, 0, 0, 0, 3, 0, 0, 0, 3, 0, 0, 0, 3, 0, 0, 0, 3, 0, 0, 0, 3, 2, 0, 0, 3, 1, 0, 0]
        given += [7, 4, 0, 4, 0, 0, 0, 0, 3, 0, 0, 0, 5, 2, 0, 2, 0, 8, 3, 2, 0, 0, 3, -1, 0, 0, 3, 1, 0, 0]
        self.assertEqual(answers(calls), given)

    def test_each_call(self):
        for numbers, answer in zip(EACH_CALL, EACH_ANSWER):
            self.assertEqual(answers(numbers), [len(answer)] + answer)


class SeveralCalls(unittest.TestCase):
    def test_all_in_one_list(self):
        self.assertEqual(split(answers(joined(EACH_CALL))), list(EACH_ANSWER))

    def test_all_on_a_book(self):
        self.assertEqual(split(answers(joined(BOOK_CALLS))), list(BOOK_ANSWERS))
        calls = joined(EACH_CALL + BOOK_CALLS + EACH_CALL + BOOK_CALLS)
        self.assertEqual(split(answers(calls)), list(EACH_ANSWER + BOOK_ANSWERS + EACH_ANSWER + BOOK_ANSWERS))

    def test_backwards_and_twice(self):
        calls = joined(EACH_CALL[::-1] + EACH_CALL)
        self.assertEqual(split(answers(calls)), list(EACH_ANSWER[::-1] + EACH_ANSWER))

    def test_every_pair(self):
        for first, answer in zip(EACH_CALL, EACH_ANSWER):
            for second, other in zip(EACH_CALL, EACH_ANSWER):
                self.assertEqual(split(answers(first + second)), [answer, other])

    def test_refusals_between(self):
        calls = call("times", [], [TOP] * 300) + call("unrank", 3, 0) + call("row", [0] * 600)
        calls += call("change", TOP, TOP, []) + call("unrank", 3, 6) + call("right", 3, ROUNDS)
        refused = [-1, 0, 0]
        rounds = [0, 0, 16] + ROUNDS
        self.assertEqual(split(answers(calls)), [refused, rounds, refused, refused, refused, [1, 0, 0]])

    def test_400_calls(self):
        calls = [8, 3, 5] * 399 + [0, 2, 0]
        given = split(answers(calls))
        self.assertEqual(len(given), 400)
        self.assertEqual(given[:399], [[0, 0, 16, 2, 1, 0] + ROUNDS[3:]] * 399)
        self.assertEqual(given[399], [0, 0, 0])

    def test_15800_numbers(self):
        calls = call("read", 4, "x" * 600) * 25
        while len(calls) <= 15800 - 302:
            calls += call("order", [TOP] * 300)
        calls += call("back", [0] * (15800 - len(calls) - 2))
        self.assertEqual(len(calls), 15800)
        given = split(answers(calls))
        self.assertEqual(given[:25], [[-2, 0, 0]] * 25)
        self.assertEqual(set(map(tuple, given[25:])), {(-1, 0, 0)})

    def test_the_greatest_order_often(self):
        greatest = [1, 2, 3, 0, 5, 6, 7, 8, 4, 10, 11, 12, 13, 14, 15, 9]
        calls = call("power", -1, greatest) * 400
        back = [0, 0, 16, 3, 0, 1, 2, 8, 4, 5, 6, 7, 15, 9, 10, 11, 12, 13, 14]
        self.assertEqual(split(answers(calls)), [back] * 400)


class WhatIsHandedIn(unittest.TestCase):
    def test_it_is_the_same_after(self):
        calls = joined(EACH_CALL + BOOK_CALLS)
        before = list(calls)
        answers(calls)
        self.assertEqual(calls, before)
        self.assertEqual(list(map(type, calls)), list(map(type, before)))

    def test_it_is_never_changed_on_the_way(self):
        class Kept(list):
            def refuse(self, *given):
                raise AssertionError("the list is changed")

            __setitem__ = __delitem__ = __iadd__ = __imul__ = refuse
            append = extend = insert = pop = remove = clear = reverse = sort = refuse

        calls = Kept(joined(EACH_CALL + BOOK_CALLS))
        self.assertEqual(split(answers(calls)), list(EACH_ANSWER + BOOK_ANSWERS))

    def test_nothing_is_kept(self):
        calls = joined(EACH_CALL + BOOK_CALLS)
        first = answers(calls)
        kept = list(first)
        for place in range(len(first)):
            first[place] = -99
        self.assertEqual(answers(calls), kept)
        self.assertEqual(answers(calls), kept)

    def test_whole_numbers_alone_are_given_back(self):
        given = answers(joined(EACH_CALL + BOOK_CALLS))
        for number in given:
            self.assertIs(type(number), int)
        self.assertIs(type(given), list)

    def test_it_prints_nothing(self):
        printed = io.StringIO()
        with contextlib.redirect_stdout(printed), contextlib.redirect_stderr(printed):
            answers(joined(EACH_CALL + BOOK_CALLS))
        self.assertEqual(printed.getvalue(), "")


class TheyAgree(unittest.TestCase):
    def test_a_row_goes_round_through_all_its_forms(self):
        for n in range(3, 17):
            for rank in (0, 1, 2, 3, 5):
                row = ask("unrank", n, rank)[3:]
                self.assertEqual(ask("rank", n, row)[0], rank)
                text = ask("text", n, row)
                self.assertEqual(ask("row", text[2:2 + n])[3:], row)
                back = ask("back", row)[3:]
                self.assertEqual(ask("times", back, row)[3:], ROUNDS)
                self.assertEqual(ask("times", row, back)[3:], ROUNDS)
                self.assertEqual(ask("power", -1, row)[3:], back)
                self.assertEqual(ask("power", ask("order", row)[0], row)[3:], ROUNDS)
                self.assertEqual(ask("odd", row), ask("odd", back))

    def test_a_change_is_a_product(self):
        row = [3, 0, 4, 1, 5, 2] + ROUNDS[6:]
        for places in ("", "12", "16", "1234", "3456", "123456", "36"):
            m = bits(places)
            of_rounds = ask("change", 6, m, ROUNDS)[3:]
            self.assertEqual(ask("change", 6, m, row), ask("times", row, of_rounds))
            self.assertEqual(ask("times", of_rounds, of_rounds)[3:], ROUNDS)

    def test_a_block_does_what_its_head_does(self):
        for n, changes in ((4, [0, 9]), (5, [16, 1, 7]), (6, [0, 33] * 5 + [0, 3]), (16, [0, 2 ** 15 + 1, 3])):
            head = ask("ends", n, changes, ROUNDS)[3:]
            order = ask("order", head)[0]
            self.assertEqual(ask("course", n, changes)[0], order * len(changes))
            reached = ROUNDS
            for lead in range(order):
                self.assertEqual(ask("power", lead, head)[3:], reached)
                reached = ask("ends", n, changes, reached)[3:]
            self.assertEqual(reached, ROUNDS)
            still = [bell for bell in range(n) if ask("hunts", n, changes)[0] >> bell & 1]
            self.assertEqual(still, [bell for bell in range(n) if head[bell] == bell])

    def test_a_text_is_rung_as_its_changes(self):
        changes = ask("read", 6, "&x16x16x16,12")[3:]
        row = ROUNDS
        for m in changes:
            row = ask("change", 6, m, row)[3:]
        self.assertEqual(ask("ends", 6, changes, ROUNDS)[3:], row)
        self.assertEqual(ask("text", 6, row)[2:8], list(b"135264"))

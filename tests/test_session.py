"""Lists of many calls in any order on one book, held against a plain model of a book."""

import random
import unittest

from bellrowsdesk.book import answers
from tests.callform import (
    NO_BOOK, REFUSED, ROUNDS, TOP, after, ask_all, call, changes_of, number, rung, with_list,
)

MOST_TRIES = 1000


class Model:
    """A book as the words tell it; the search is a walk that stops before each block and at each touch."""

    def __init__(self):
        self.n = None

    def answer(self, name, *parts):
        if name != "open" and self.n is None:
            return NO_BOOK
        return getattr(self, "to_" + name)(*parts)

    def end_search(self):
        self.walk = None
        self.found = None

    def to_open(self, n):
        if not 3 <= n <= 16:
            return REFUSED
        self.n, self.blocks, self.bars, self.low, self.high = n, [], set(), 1, 240
        self.end_search()
        return number(0)

    def to_block(self, changes):
        if not 1 <= len(changes) <= 40 or any(m >= 2 ** self.n or after(self.n, m, ROUNDS) is None for m in changes):
            return REFUSED
        if len(self.blocks) == 8:
            return number(-2)
        self.blocks.append(changes)
        self.end_search()
        return number(len(self.blocks) - 1)

    def to_lengths(self, low, high):
        if not 1 <= low <= high <= 240:
            return REFUSED
        self.low, self.high = low, high
        self.end_search()
        return number(0)

    def to_bar(self, depth, barred):
        if barred >= len(self.blocks) or depth >= 240:
            return REFUSED
        if (depth, barred) in self.bars:
            return number(1)
        if len(self.bars) == 16:
            return number(-2)
        self.bars.add((depth, barred))
        self.end_search()
        return number(0)

    def rows(self, touch):
        return rung(self.n, [m for called in touch for m in self.blocks[called]], ROUNDS)

    def alike(self, rows):
        for second in range(len(rows)):
            for first in range(second):
                if rows[first] == rows[second] and (first, second) != (0, len(rows) - 1):
                    return [first, second]
        return None

    def walked(self, calls):
        for coming in range(len(self.blocks)):
            yield "block"
            if (len(calls), coming) in self.bars:
                continue
            yield "try"
            tried = calls + [coming]
            rows = self.rows(tried)
            if len(rows) - 1 > self.high or self.alike(rows):
                continue
            if rows[-1] != ROUNDS:
                yield from self.walked(tried)
            elif len(rows) - 1 >= self.low:
                yield tried

    def to_begin(self):
        self.end_search()
        self.walk = self.walked([])
        self.stood = None
        return number(0)

    def to_search(self, tries):
        if tries > 500:
            return number(-2)
        if self.walk is None:
            return REFUSED
        self.found = None
        made = 0
        while True:
            step = self.stood or next(self.walk, "over")
            self.stood = None
            if step == "over":
                return number(0)
            if step == "block" and made == tries:
                self.stood = step
                return number(2)
            if step == "try":
                made += 1
            elif step != "block":
                self.found = step
                return number(1)

    def to_touch(self):
        return REFUSED if self.found is None else with_list(len(self.found), self.found)

    def refusal(self, touch):
        if len(touch) > 240 or any(called >= len(self.blocks) for called in touch):
            return REFUSED
        if sum(len(self.blocks[called]) for called in touch) > 240:
            return number(-2)
        return None

    def to_prove(self, touch):
        if self.refusal(touch):
            return self.refusal(touch)
        rows = self.rows(touch)
        if self.alike(rows):
            return with_list(2, self.alike(rows))
        return number(0 if rows[-1] == ROUNDS else 1)

    def to_music(self, touch, pattern):
        if self.refusal(touch):
            return self.refusal(touch)
        if len(pattern) != 16:
            return REFUSED
        return number(sum(all(p in (b, 255) for b, p in zip(r, pattern)) for r in self.rows(touch)[1:]))


class Drawn:
    """Draws calls, right ones and wrong ones."""

    def __init__(self, seed):
        self.drawn = random.Random(seed)
        self.n = 3 + seed % 3
        self.tries = 0

    def one_of(self, *values):
        return self.drawn.choice(values)

    def drawn_n(self):
        return self.one_of(self.n, self.n, self.n, 2, 17, 4, 16, TOP)

    def drawn_block(self):
        choice = changes_of(self.n) + [2 ** self.n]
        return [self.drawn.choice(choice) for step in range(self.one_of(0, 1, 1, 1, 2, 2, 3, 6, 40, 41))]

    def drawn_touch(self):
        return [self.drawn.randrange(4) for step in range(self.one_of(0, 1, 1, 2, 2, 3, 4, 6, 10))]

    def drawn_tries(self):
        told = self.one_of(0, 1, 1, 2, 3, 5, 10, 20, 20)
        told = min(told, MOST_TRIES - self.tries)
        self.tries += told
        return told

    def drawn_calls(self, size):
        """So many calls; most of them begin with a book that can be searched."""
        asked = []
        if self.drawn.randrange(5) > 0:
            asked.append(("open", self.n))
            for step in range(self.one_of(2, 2, 3)):
                asked.append(("block", [self.drawn.choice(changes_of(self.n)) for step in range(self.one_of(1, 1, 2))]))
            asked.append(("begin",))
        while len(asked) < size:
            asked.append(self.drawn_call())
        return asked

    def drawn_call(self):
        name = self.drawn.choice(
            ["open", "block", "block", "lengths", "bar", "bar"] + ["begin"] * 3
            + ["search"] * 40 + ["touch"] * 30 + ["prove"] * 9 + ["music"] * 6)
        if name == "open":
            return name, self.drawn_n()
        if name == "block":
            return name, self.drawn_block()
        if name == "lengths":
            return name, self.one_of(0, 1, 1, 1, 2, 3, 4), self.one_of(1, 4, 6, 8, 240, 240, 241)
        if name == "bar":
            return name, self.one_of(0, 1, 1, 2, 3, 239, 240), self.drawn.randrange(4)
        if name == "search":
            return name, self.drawn_tries()
        if name == "prove":
            return name, self.drawn_touch()
        if name == "music":
            pattern = [255] * self.one_of(16, 16, 16, 15, 17)
            pattern[self.drawn.randrange(self.n)] = self.drawn.randrange(self.n)
            return name, self.drawn_touch(), pattern
        return (name,)


class AnyOrder(unittest.TestCase):
    def test_drawn_lists(self):
        seen = {}
        for seed in range(200):
            drawn = Drawn(seed)
            asked = drawn.drawn_calls(200)
            model = Model()
            expected = [model.answer(*one) for one in asked]
            given = ask_all(*[call(*one) for one in asked])
            for place, one in enumerate(asked):
                self.assertEqual(given[place], expected[place], (seed, place, one))
                seen[one[0], given[place][0]] = True
        self.check_all_kinds_came(seen)

    def check_all_kinds_came(self, seen):
        for kind in (("open", 0), ("open", -1), ("block", 0), ("block", -1), ("lengths", 0), ("lengths", -1),
                     ("bar", 0), ("bar", 1), ("bar", -1), ("begin", 0), ("search", 0), ("search", 1), ("search", 2),
                     ("search", -1), ("touch", 1), ("touch", -1), ("prove", 0), ("prove", 1), ("prove", 2),
                     ("prove", -1), ("music", 0), ("music", -1), ("touch", -8), ("search", -8)):
            self.assertIn(kind, seen)

    def test_with_calls_between_that_need_no_book(self):
        between = [call("stay", 4, [0]), call("falses", 4, 0, [0]), call("right", 3, ROUNDS), call("read", 4, "x")]
        for seed in range(10):
            drawn = Drawn(100 + seed)
            asked = [call(*one) for one in drawn.drawn_calls(60)]
            alone = ask_all(*asked)
            mixed = ask_all(*[one for own in asked for one in [own] + between])
            self.assertEqual(mixed[::5], alone)

    def test_one_list_does_not_know_of_another(self):
        lists = []
        for seed in range(8):
            drawn = Drawn(200 + seed)
            lists.append([value for one in drawn.drawn_calls(80) for value in call(*one)])
        once = [answers(one) for one in lists]
        self.assertEqual([answers(one) for one in lists[::-1]], once[::-1])

    def test_400_calls(self):
        drawn = Drawn(300)
        asked = [("open", 3), ("block", [1]), ("block", [4]), ("begin",)]
        while len(asked) < 400:
            one = drawn.drawn_call()
            if one[0] in ("search", "touch", "prove", "begin"):
                asked.append(one)
        model = Model()
        self.assertEqual(ask_all(*[call(*one) for one in asked]), [model.answer(*one) for one in asked])

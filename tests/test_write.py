"""write: how changes are written, and that what is written is read as it was."""

import random
import unittest

from tests.callform import (
    NAMES, REFUSED, TOP, ask, block, changes_of, number, with_bytes, with_list,
)

ALL_OF_16 = 2 ** 16 - 1


def written_bytes(answer):
    """The bytes of an answer of bytes."""
    return answer[2:2 + answer[1]]


class WriteInOrder(unittest.TestCase):
    def test_known(self):
        self.assertEqual(ask("write", 4, 0, block("", "14", "", "12")), with_bytes("x14x12"))
        self.assertEqual(ask("write", 5, 0, block("5", "1", "123")), with_bytes("5.1.123"))
        self.assertEqual(ask("write", 4, 0, block("", "")), with_bytes("xx"))
        self.assertEqual(ask("write", 4, 0, block("12", "34", "", "14")), with_bytes("12.34x14"))
        self.assertEqual(ask("write", 4, 0, block("")), with_bytes("x"))
        self.assertEqual(ask("write", 3, 0, block("3")), with_bytes("3"))

    def test_all_places_made_are_told(self):
        self.assertEqual(ask("write", 6, 0, block("16", "36", "123456")), with_bytes("16.36.123456"))
        self.assertEqual(ask("write", 16, 0, [ALL_OF_16, 0]), with_bytes(NAMES + "x"))
        self.assertEqual(ask("write", 16, 0, block("1D")), with_bytes("1D"))

    def test_40_changes_of_16_names(self):
        text = ".".join([NAMES] * 40)
        self.assertEqual(len(text), 679)
        self.assertEqual(ask("write", 16, 0, [ALL_OF_16] * 40), with_bytes(text))
        self.assertEqual(ask("read", 16, (text[:600])), number(-2))

    def test_symmetry_does_not_matter(self):
        self.assertEqual(ask("write", 4, 0, block("", "14", "12")), with_bytes("x14.12"))
        self.assertEqual(ask("write", 4, 0, block("12", "34")), with_bytes("12.34"))


class WriteHalf(unittest.TestCase):
    def test_known(self):
        self.assertEqual(ask("write", 4, 1, block("", "14", "", "12")), with_bytes("&x14,12"))
        self.assertEqual(ask("write", 4, 1, block("12", "34")), with_bytes("&12,34"))
        self.assertEqual(ask("write", 4, 1, block("", "")), with_bytes("&x,x"))
        self.assertEqual(ask("write", 5, 1, block("5", "1", "5", "125")), with_bytes("&5.1,125"))
        plain_bob = block(*["", "16"] * 5 + ["", "12"])
        self.assertEqual(ask("write", 6, 1, plain_bob), with_bytes("&x16x16x16,12"))

    def test_40_changes(self):
        self.assertEqual(ask("write", 4, 1, [0] * 40), with_bytes("&" + "x" * 20 + ",x"))

    def test_odd_number(self):
        self.assertEqual(ask("write", 4, 1, block("")), number(-5))
        self.assertEqual(ask("write", 4, 1, block("", "", "")), number(-5))
        self.assertEqual(ask("write", 4, 1, [0] * 39), number(-5))

    def test_not_the_same_from_behind(self):
        self.assertEqual(ask("write", 4, 1, block("", "14", "12", "34")), number(-5))
        self.assertEqual(ask("write", 4, 1, block("12", "", "", "12")), number(-5))
        self.assertEqual(ask("write", 4, 1, block("12", "", "14", "34", "12", "")), number(-5))
        self.assertEqual(ask("write", 4, 1, [0] * 38 + block("14", "")), number(-5))
        self.assertEqual(ask("write", 4, 1, [0] * 39 + block("14")), with_bytes("&" + "x" * 20 + ",14"))


class WriteRefuses(unittest.TestCase):
    def test_n_outside(self):
        for n in (0, 1, 2, 17, 18, TOP):
            for half in (0, 1, 2):
                self.assertEqual(ask("write", n, half, [0, 0]), REFUSED)
                self.assertEqual(ask("write", n, half, [3, 3]), REFUSED)

    def test_no_block(self):
        for half in (0, 1, 2, TOP):
            for changes in ([], [0] * 41, [0] * 300, [0, 2], [2, 0], [0, 16], [TOP, 0], [TOP] * 300):
                self.assertEqual(ask("write", 4, half, changes), REFUSED)
            self.assertEqual(ask("write", 5, half, [1, 0]), REFUSED)
            self.assertEqual(ask("write", 16, half, [2 ** 16, 0]), REFUSED)

    def test_half_above_1(self):
        for half in (2, 3, 2 ** 32, TOP):
            self.assertEqual(ask("write", 4, half, [0, 0]), REFUSED)
            self.assertEqual(ask("write", 4, half, [0]), REFUSED)

    def test_no_block_goes_before_5(self):
        self.assertEqual(ask("write", 4, 1, [0, 9, 16]), REFUSED)
        self.assertEqual(ask("write", 4, 1, [0] * 41), REFUSED)
        self.assertEqual(ask("write", 4, 1, []), REFUSED)


class WrittenIsRead(unittest.TestCase):
    def test_each_change_alone_and_with_itself(self):
        for n in range(3, 9):
            for m in changes_of(n):
                for changes in ([m], [m, m], [m, 2 ** n - 1, m]):
                    text = written_bytes(ask("write", n, 0, changes))
                    self.assertEqual(ask("read", n, text), with_list(len(changes), changes))

    def test_drawn_blocks(self):
        drawn = random.Random(16)
        for n in range(3, 9):
            choice = changes_of(n)
            for size in (1, 2, 3, 7, 20, 39, 40):
                changes = [drawn.choice(choice) for step in range(size)]
                text = written_bytes(ask("write", n, 0, changes))
                self.assertEqual(ask("read", n, text), with_list(size, changes))

    def test_drawn_halves(self):
        drawn = random.Random(40)
        for n in range(3, 9):
            choice = changes_of(n)
            for size in (1, 2, 3, 10, 20):
                half = [drawn.choice(choice) for step in range(size)]
                changes = half + half[:-1][::-1] + [drawn.choice(choice)]
                text = written_bytes(ask("write", n, 1, changes))
                self.assertEqual(ask("read", n, text), with_list(2 * size, changes))

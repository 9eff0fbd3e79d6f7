"""read: what notation says, and by which place its faults are told."""

import itertools
import re
import unittest

from tests.callform import (
    NAMES, REFUSED, TOP, ask, bits, no_text, number, with_list, wrong_change,
)

CHANGES = r"[&+]?(?:[1-90ETABCD]+|[xX-])(?:\.(?:[1-90ETABCD]+|[xX-])|(?<=[xX-])[1-90ETABCD]+|[xX-])*"
TEXT = re.compile(CHANGES + "(?:," + CHANGES + ")?")


def fault_by_pattern(text):
    """The first fault's place: a beginning is right if it is a text, or one with a change behind it."""
    for end in range(1, len(text) + 1):
        begun = text[:end]
        if not TEXT.fullmatch(begun) and not TEXT.fullmatch(begun + "x"):
            return end - 1
    return None if TEXT.fullmatch(text) else len(text)


def said(*names):
    """The answer that tells these changes; '' is a cross."""
    return with_list(len(names), [bits(name) for name in names])


class WhatChangesSay(unittest.TestCase):
    def test_places_are_filled_up(self):
        self.assertEqual(ask("read", 6, "2"), said("12"))
        self.assertEqual(ask("read", 6, "3"), said("36"))
        self.assertEqual(ask("read", 6, "1"), said("16"))
        self.assertEqual(ask("read", 6, "6"), said("16"))
        self.assertEqual(ask("read", 6, "5"), said("56"))
        self.assertEqual(ask("read", 5, "2"), said("125"))
        self.assertEqual(ask("read", 5, "4"), said("145"))
        self.assertEqual(ask("read", 5, "1"), said("1"))
        self.assertEqual(ask("read", 5, "5"), said("5"))
        self.assertEqual(ask("read", 3, "2"), said("123"))
        self.assertEqual(ask("read", 6, "34"), said("34"))
        self.assertEqual(ask("read", 6, "4"), said("14"))
        self.assertEqual(ask("read", 8, "45"), said("1458"))
        self.assertEqual(ask("read", 16, "D"), said("1D"))
        self.assertEqual(ask("read", 16, "0"), said("10"))
        self.assertEqual(ask("read", 16, NAMES), said(NAMES))

    def test_names_rise(self):
        for text in ("21", "11", "122", "132", "6543"):
            self.assertEqual(ask("read", 6, text), wrong_change(0))
        self.assertEqual(ask("read", 12, "01"), wrong_change(0))
        self.assertEqual(ask("read", 12, "90"), said("90"))

    def test_names_are_of_the_first_n(self):
        for n in range(3, 16):
            self.assertEqual(ask("read", n, NAMES[:n]), said(NAMES[:n]))
            self.assertEqual(ask("read", n, NAMES[n]), wrong_change(0))
            self.assertEqual(ask("read", n, NAMES[:n + 1]), wrong_change(0))
        self.assertEqual(ask("read", 3, "1D"), wrong_change(0))

    def test_odd_gaps_between(self):
        self.assertEqual(ask("read", 6, "13"), wrong_change(0))
        self.assertEqual(ask("read", 6, "1236"), said("1236"))
        self.assertEqual(ask("read", 6, "1246"), wrong_change(0))
        self.assertEqual(ask("read", 8, "26"), wrong_change(0))
        self.assertEqual(ask("read", 8, "1238"), said("1238"))

    def test_cross(self):
        for n in range(3, 17):
            for cross in ("x", "X", "-"):
                self.assertEqual(ask("read", n, cross), said("") if n % 2 == 0 else wrong_change(0))

    def test_every_set_of_places_of_few_bells(self):
        for n in (3, 4, 5, 6):
            for m in range(1, 2 ** n):
                places = [i for i in range(n) if m >> i & 1]
                text = "".join(NAMES[i] for i in places)
                gaps = [b - a - 1 for a, b in zip(places, places[1:])]
                filled = set(text) | (set("1") if places[0] % 2 else set())
                filled |= set(NAMES[n - 1]) if (n - 1 - places[-1]) % 2 else set()
                right = all(gap % 2 == 0 for gap in gaps)
                self.assertEqual(ask("read", n, text), said(filled) if right else wrong_change(0))


class WhatPartsSay(unittest.TestCase):
    def test_one_part(self):
        self.assertEqual(ask("read", 4, "x14x12"), said("", "14", "", "12"))
        self.assertEqual(ask("read", 4, "+x14x12"), said("", "14", "", "12"))
        self.assertEqual(ask("read", 4, "&x14x12"), said("", "14", "", "12", "", "14", ""))

    def test_two_parts(self):
        self.assertEqual(ask("read", 4, "x14,12"), said("", "14", "", "12"))
        self.assertEqual(ask("read", 4, "x14,12.34"), said("", "14", "", "12", "34", "12"))
        self.assertEqual(ask("read", 4, "+x14,12.34"), said("", "14", "12", "34", "12"))
        self.assertEqual(ask("read", 4, "x14,+12.34"), said("", "14", "", "12", "34"))
        self.assertEqual(ask("read", 4, "+x14,+12.34"), said("", "14", "12", "34"))
        self.assertEqual(ask("read", 4, "&x14,&12.34"), said("", "14", "", "12", "34", "12"))
        self.assertEqual(ask("read", 4, "&x14,+12.34"), said("", "14", "", "12", "34"))
        self.assertEqual(ask("read", 4, "+x14,&12.34"), said("", "14", "12", "34", "12"))

    def test_one_change_is_not_said_again(self):
        self.assertEqual(ask("read", 4, "&12"), said("12"))
        self.assertEqual(ask("read", 4, "12,34"), said("12", "34"))

    def test_dots_beside_crosses(self):
        self.assertEqual(ask("read", 4, "x.14.x"), said("", "14", ""))
        self.assertEqual(ask("read", 4, "x.X.-"), said("", "", ""))
        self.assertEqual(ask("read", 4, "xX-"), said("", "", ""))
        self.assertEqual(ask("read", 4, "12x34.12"), said("12", "", "34", "12"))

    def test_known_methods(self):
        plain_bob = ["", "16"] * 5 + ["", "12"]
        self.assertEqual(ask("read", 6, "&x16x16x16,12"), said(*plain_bob))
        grandsire = ["3"] + ["1", "5"] * 4 + ["1"]
        self.assertEqual(ask("read", 5, "3,&1.5.1.5.1"), said(*grandsire))


class Faults(unittest.TestCase):
    def test_every_short_text(self):
        for size in range(0, 6):
            for signs in itertools.product("x1.,& ", repeat=size):
                text = "".join(signs)
                fault = fault_by_pattern(text)
                answer = ask("read", 16, text)
                if fault is None:
                    self.assertNotEqual(answer[:4], [-6, 0, 2, 1], text)
                else:
                    self.assertEqual(answer, no_text(fault), text)

    def test_ends_too_soon(self):
        for text in ("", "&", "+", "x.", "12.", "12,", "x,&", "12,34.", "&x,+"):
            self.assertEqual(ask("read", 4, text), no_text(len(text)))

    def test_places(self):
        self.assertEqual(ask("read", 4, "."), no_text(0))
        self.assertEqual(ask("read", 4, ","), no_text(0))
        self.assertEqual(ask("read", 4, "x..x"), no_text(2))
        self.assertEqual(ask("read", 4, "&&x"), no_text(1))
        self.assertEqual(ask("read", 4, "+&x"), no_text(1))
        self.assertEqual(ask("read", 4, "x&"), no_text(1))
        self.assertEqual(ask("read", 4, "12+"), no_text(2))
        self.assertEqual(ask("read", 4, "&,x"), no_text(1))
        self.assertEqual(ask("read", 4, "x,,x"), no_text(2))
        self.assertEqual(ask("read", 4, "x,.x"), no_text(2))
        self.assertEqual(ask("read", 4, "x.,x"), no_text(2))
        self.assertEqual(ask("read", 4, "x,x,x"), no_text(3))
        self.assertEqual(ask("read", 4, "x,12,"), no_text(4))
        self.assertEqual(ask("read", 4, "&.x"), no_text(1))
        self.assertEqual(ask("read", 4, "12 34"), no_text(2))
        self.assertEqual(ask("read", 4, "x14x14\n"), no_text(6))

    def test_every_single_byte(self):
        for byte in range(256):
            answer = ask("read", 16, [byte])
            if byte in (NAMES + "xX-").encode("ascii"):
                self.assertEqual(answer[:3], [1, 0, 1])
            elif byte in b"&+":
                self.assertEqual(answer, no_text(1))
            else:
                self.assertEqual(answer, no_text(0))

    def test_first_wrong_change(self):
        self.assertEqual(ask("read", 4, "x.13.x"), wrong_change(2))
        self.assertEqual(ask("read", 4, "x13.21"), wrong_change(1))
        self.assertEqual(ask("read", 4, "&x12,+12.34.13.21"), wrong_change(12))
        self.assertEqual(ask("read", 5, "123.x"), wrong_change(4))
        self.assertEqual(ask("read", 5, "&5.1x"), wrong_change(4))
        self.assertEqual(ask("read", 4, "12,5"), wrong_change(3))
        self.assertEqual(ask("read", 4, "12.1234.12345"), wrong_change(8))
        self.assertEqual(ask("read", 4, "x" * 500 + "13" + "x" * 10), wrong_change(500))


class TheOrderOfRefusals(unittest.TestCase):
    def test_n_first(self):
        for n in (0, 1, 2, 17, 18, TOP):
            for text in ("12", "", " ", "13", "x" * 41, "x" * 513, " " * 600):
                self.assertEqual(ask("read", n, text), REFUSED)

    def test_the_length_next(self):
        for n in (3, 4, 16):
            for text in ("x" * 513, " " * 513, "13." * 200, "x" * 600):
                self.assertEqual(ask("read", n, text), number(-2))

    def test_no_text_before_a_wrong_change(self):
        self.assertEqual(ask("read", 4, "13.21 "), no_text(5))
        self.assertEqual(ask("read", 3, "x."), no_text(2))
        self.assertEqual(ask("read", 4, "x" * 41 + " "), no_text(41))

    def test_a_wrong_change_before_too_many(self):
        self.assertEqual(ask("read", 4, "x" * 41 + "13"), wrong_change(41))
        self.assertEqual(ask("read", 3, "x" * 41), wrong_change(0))


class Sizes(unittest.TestCase):
    def test_40_and_41_changes(self):
        self.assertEqual(ask("read", 4, "x" * 40), said(*[""] * 40))
        self.assertEqual(ask("read", 4, "x" * 41), number(-3))
        self.assertEqual(ask("read", 4, "&" + "x" * 20), said(*[""] * 39))
        self.assertEqual(ask("read", 4, "&" + "x" * 20 + ",12"), said(*[""] * 39 + ["12"]))
        self.assertEqual(ask("read", 4, "&" + "x" * 21), number(-3))
        self.assertEqual(ask("read", 4, "&" + "x" * 20 + ",+12.12"), number(-3))
        self.assertEqual(ask("read", 4, "+" + "x" * 20 + ",+" + "x" * 20), said(*[""] * 40))
        self.assertEqual(ask("read", 4, "+" + "x" * 20 + ",+" + "x" * 21), number(-3))

    def test_512_and_513_bytes(self):
        wide = ".".join([NAMES] * 30)
        self.assertEqual(len(wide), 509)
        self.assertEqual(ask("read", 16, wide + "xxx"), said(*[NAMES] * 30 + ["", "", ""]))
        self.assertEqual(ask("read", 16, wide + "xxxx"), number(-2))
        self.assertEqual(ask("read", 4, "x" * 512), number(-3))
        self.assertEqual(ask("read", 4, "x" * 511 + " "), no_text(511))
        self.assertEqual(ask("read", 4, "x" * 511 + "."), no_text(512))
        self.assertEqual(ask("read", 4, "x" * 510 + "13"), wrong_change(510))
        self.assertEqual(ask("read", 16, "1" * 512), wrong_change(0))

    def test_n_of_3_and_16(self):
        self.assertEqual(ask("read", 3, "3.1"), said("3", "1"))
        self.assertEqual(ask("read", 16, "x1D"), said("", "1D"))

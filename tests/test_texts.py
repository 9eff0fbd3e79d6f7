"""row and text: rows told by the bells' names."""

import itertools
import unittest

from tests.callform import (
    NAMES, REFUSED, ROUNDS, TOP, ask, no_rows_of_16, row, with_bytes, with_list,
)


class Row(unittest.TestCase):
    def test_names_in_order(self):
        for n in range(3, 17):
            self.assertEqual(ask("row", NAMES[:n]), with_list(0, ROUNDS))

    def test_known(self):
        self.assertEqual(ask("row", "321"), with_list(0, [2, 1, 0] + ROUNDS[3:]))
        self.assertEqual(ask("row", "DCBATE0987654321"), with_list(0, ROUNDS[::-1]))
        self.assertEqual(ask("row", "2143658709TE"), with_list(0, [1, 0, 3, 2, 5, 4, 7, 6, 9, 8, 11, 10, 12, 13, 14, 15]))

    def test_too_few_or_too_many(self):
        for names in ("", "1", "12", "21", NAMES + "1", NAMES + "F", NAMES * 37, "1" * 600):
            self.assertEqual(ask("row", names), REFUSED)
        self.assertEqual(ask("row", list(range(256)) + [0] * 344), REFUSED)

    def test_not_the_first_so_many(self):
        for names in ("124", "234", "1230", "12345678 0", "123456780", NAMES[:15][1:], NAMES[1:]):
            self.assertEqual(ask("row", names), REFUSED)

    def test_a_bell_twice(self):
        for names in ("112", "1233", "333", NAMES[:15] + "1"):
            self.assertEqual(ask("row", names), REFUSED)

    def test_other_bytes(self):
        for names in ("12x", "1 2 3", "1234567890e", "1234567890Et", "123\n", "&123", "12.3"):
            self.assertEqual(ask("row", names), REFUSED)
        for byte in (0, 1, 2, 51 + 128, 255):
            self.assertEqual(ask("row", [49, 50, byte]), REFUSED)
            self.assertEqual(ask("row", [49, 50, 51, byte]), REFUSED)


class Text(unittest.TestCase):
    def test_rounds(self):
        for n in range(3, 17):
            self.assertEqual(ask("text", n, ROUNDS), with_bytes(NAMES[:n]))

    def test_all_rows_of_4_are_read_as_written(self):
        for bells in itertools.permutations("1234"):
            names = "".join(bells)
            self.assertEqual(ask("text", 4, row(names)), with_bytes(names))
            self.assertEqual(ask("row", names), with_list(0, row(names)))

    def test_of_16(self):
        self.assertEqual(ask("text", 16, ROUNDS[::-1]), with_bytes("DCBATE0987654321"))

    def test_n_outside(self):
        for n in (0, 1, 2, 17, TOP):
            self.assertEqual(ask("text", n, ROUNDS), REFUSED)

    def test_no_row_of_n(self):
        for r in no_rows_of_16():
            for n in (2, 3, 16, 17):
                self.assertEqual(ask("text", n, r), REFUSED)
        self.assertEqual(ask("text", 3, row("1243")), REFUSED)
        self.assertEqual(ask("text", 3, ROUNDS[:14] + [15, 14]), REFUSED)

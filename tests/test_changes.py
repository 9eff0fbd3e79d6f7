"""change: which numbers are changes, and what they do to a row."""

import unittest

from tests.callform import REFUSED, ROUNDS, TOP, after, ask, bits, no_rows_of_16, row, with_list


class Change(unittest.TestCase):
    def test_known(self):
        self.assertEqual(ask("change", 4, 0, ROUNDS), with_list(0, row("2143")))
        self.assertEqual(ask("change", 4, bits("14"), row("2143")), with_list(0, row("2413")))
        self.assertEqual(ask("change", 4, bits("12"), ROUNDS), with_list(0, row("1243")))
        self.assertEqual(ask("change", 5, bits("3"), ROUNDS), with_list(0, row("21354")))
        self.assertEqual(ask("change", 3, bits("1"), row("231")), with_list(0, row("213")))
        self.assertEqual(ask("change", 3, bits("3"), row("231")), with_list(0, row("321")))
        self.assertEqual(ask("change", 16, 0, ROUNDS), with_list(0, row("2143658709TEBADC")))
        self.assertEqual(ask("change", 16, bits("1D"), ROUNDS), with_list(0, row("132547698E0ATCBD")))

    def test_all_made_stays(self):
        for n in range(3, 17):
            self.assertEqual(ask("change", n, 2 ** n - 1, ROUNDS), with_list(0, ROUNDS))

    def test_every_number_for_few_bells(self):
        for n in range(3, 8):
            r = ROUNDS[1:n] + [0] + ROUNDS[n:]
            for m in range(2 ** n + 3):
                changed = after(n, m, r) if m < 2 ** n else None
                expected = REFUSED if changed is None else with_list(0, changed)
                self.assertEqual(ask("change", n, m, r), expected)

    def test_many_for_16(self):
        for m in list(range(0, 65536, 97)) + list(range(65500, 65536)):
            changed = after(16, m, ROUNDS)
            expected = REFUSED if changed is None else with_list(0, changed)
            self.assertEqual(ask("change", 16, m, ROUNDS), expected)

    def test_cross_needs_an_even_n(self):
        for n in range(3, 17):
            answer = ask("change", n, 0, ROUNDS)
            self.assertEqual(answer == REFUSED, n % 2 == 1)

    def test_m_too_great(self):
        for n in (3, 4, 15, 16):
            for m in (2 ** n, 2 ** n + 2 ** n - 1, 2 ** 63, 2 ** 64 - 2 ** n, TOP):
                self.assertEqual(ask("change", n, m, ROUNDS), REFUSED)

    def test_n_outside(self):
        for n in (0, 1, 2, 17, 18, TOP):
            for m in (0, 1, 3, TOP):
                self.assertEqual(ask("change", n, m, ROUNDS), REFUSED)

    def test_no_row_of_n(self):
        for r in no_rows_of_16():
            for n in (3, 4, 16):
                self.assertEqual(ask("change", n, 2 ** n - 1, r), REFUSED)
        self.assertEqual(ask("change", 4, 0, row("12354")), REFUSED)
        self.assertEqual(ask("change", 4, 0, ROUNDS[:14] + [15, 14]), REFUSED)
        self.assertEqual(ask("change", 6, 0, row("12354")), with_list(0, row("215364")))

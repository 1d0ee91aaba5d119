"""[1] to [3] and the interface's section on rows."""

import unittest

from oracle import all_rows, pieces, slow_gaps, slow_idle, slow_swing, slow_total
from pulsewright.errors import BadRow
from pulsewright.rows import gaps, holds, idle, swing, total

ROWS = list(all_rows(8))
STRANGERS = [
    ("2", 0), ("?", 0), (" 01", 0), ("a", 0), ("01x10", 2), ("0110 ", 4), ("01\n", 2),
    ("\n", 0), ("010-0-1", 3), ("0" * 50 + "o", 50), ("O", 0), ("0 1 2", 1),
]
LONG = 20000


class RowTest(unittest.TestCase):
    def refuses(self, at, asked, *given):
        with self.assertRaises(BadRow) as caught:
            asked(*given)
        self.assertEqual(caught.exception.at, at)

    def test_strangers_are_refused_with_the_first_one_s_place(self):
        for text, at in STRANGERS:
            for asked in (total, swing, gaps, idle):
                with self.subTest(text=text, asked=asked.__name__):
                    self.refuses(at, asked, text)

    def test_holds_refuses_the_row_then_the_piece(self):
        for text, at in STRANGERS:
            with self.subTest(text=text):
                self.refuses(at, holds, text, "0")
                self.refuses(at, holds, "0101", text)
                self.refuses(at, holds, text, "01010101x")
                self.refuses(5, holds, "01010x", text)
                self.refuses(at, holds, "", text)

    def test_a_stranger_in_both_is_refused_though_it_is_a_piece(self):
        self.refuses(1, holds, "0x1", "x")
        self.refuses(0, holds, "01", "x")

    def test_total(self):
        self.assertEqual(total(""), 0)
        self.assertEqual(total("1"), 1)
        self.assertEqual(total("0"), -1)
        self.assertEqual(total("110"), 1)
        self.assertEqual(total("0001"), -2)
        for row in ROWS:
            self.assertEqual(total(row), slow_total(row), row)

    def test_swing(self):
        self.assertEqual(swing(""), 0)
        self.assertEqual(swing("1"), 1)
        self.assertEqual(swing("0"), 1)
        self.assertEqual(swing("0101"), 1)
        self.assertEqual(swing("0110"), 2)
        self.assertEqual(swing("1001"), 2)
        self.assertEqual(swing("000"), 3)
        self.assertEqual(swing("111000"), 3)
        for row in ROWS:
            self.assertEqual(swing(row), slow_swing(row), row)

    def test_gaps(self):
        self.assertEqual(gaps(""), [])
        self.assertEqual(gaps("000"), [])
        self.assertEqual(gaps("1"), [])
        self.assertEqual(gaps("00100"), [])
        self.assertEqual(gaps("11"), [0])
        self.assertEqual(gaps("0010110001000"), [1, 0, 3])
        for row in ROWS:
            self.assertEqual(gaps(row), slow_gaps(row), row)

    def test_idle(self):
        self.assertEqual(idle(""), 0)
        self.assertEqual(idle("1"), 0)
        self.assertEqual(idle("0"), 1)
        self.assertEqual(idle("0001001"), 3)
        self.assertEqual(idle("1001000"), 3)
        self.assertEqual(idle("1000101"), 3)
        for row in ROWS:
            self.assertEqual(idle(row), slow_idle(row), row)

    def test_holds(self):
        self.assertIs(holds("0101", ""), True)
        self.assertIs(holds("", ""), True)
        self.assertIs(holds("0101", "0101"), True)
        self.assertIs(holds("0101", "01010"), False)
        self.assertIs(holds("", "0"), False)
        self.assertIs(holds("0101", "10"), True)
        self.assertIs(holds("0101", "11"), False)
        self.assertIs(holds("1001", "11"), False)
        short = list(all_rows(5))
        for row in short:
            within = pieces(row)
            for piece in short:
                self.assertIs(holds(row, piece), piece in within, (row, piece))

    def test_names(self):
        for asked in (total, swing, gaps, idle):
            self.assertEqual(asked(row="0110"), asked("0110"))
        self.assertIs(holds(row="0110", piece="11"), True)
        self.assertIs(holds(piece="0110", row="11"), False)

    def test_told_lists_are_new_ones(self):
        row = "1011"
        told = gaps(row)
        told.append(9)
        told[0] = 8
        self.assertEqual(gaps(row), [1, 0])
        self.assertIsNot(gaps(row), gaps(row))
        self.assertIsInstance(gaps(row), list)

    def test_long_rows(self):
        self.assertEqual(total("1" * LONG), LONG)
        self.assertEqual(swing("0" * LONG), LONG)
        self.assertEqual(swing("01" * (LONG // 2)), 1)
        self.assertEqual(idle("0" * LONG), LONG)
        self.assertEqual(gaps("1" + "0" * (LONG - 2) + "1"), [LONG - 2])
        self.assertIs(holds("0" * LONG, "0" * (LONG - 1) + "1"), False)
        self.refuses(LONG - 1, total, "0" * (LONG - 1) + "?")


if __name__ == "__main__":
    unittest.main()

"""[21], and the interface's section on readers."""

import itertools
import random
import unittest

from cases import RefusalCase
from pulsewright.errors import BadLength, BadPair, BadRow, Unread
from pulsewright.reader import Reader
from pulsewright.rules import Rule
from pulsewright.tables import Table
from samples import FREE, GAPS, NO_TWO
from slow_tables import SlowTable, cut, messages
from table_samples import made_tables, many_made


def fed(table, *pieces):
    reader = Reader(table)
    for piece in pieces:
        reader.feed(piece)
    return reader


def told(reader):
    return reader.choices(), reader.sure(), reader.fed()


def slow_choices(slow, row):
    """All messages whose row these whole blocks are, gone through one by one."""
    many = len(row) // slow.q
    return [message for message in messages(slow.p, many) if slow.write(message)[0] == row[:many * slow.q]]


def slow_goes_on(slow, row):
    """Whether some message's row begins so."""
    many = -(-len(row) // slow.q)
    return any(slow.write(message)[0].startswith(row) for message in messages(slow.p, many))


def slow_sure(open_ones, p):
    same = 0
    while all(len(one) >= same + p and one[:same + p] == open_ones[0][:same + p] for one in open_ones):
        same += p
    return open_ones[0][:same]


class FeedTest(RefusalCase):
    def test_nothing_fed(self):
        for made, table in made_tables():
            self.assertEqual(told(Reader(table)), ([""], "", ""))
            self.assertEqual(told(fed(table, "")), ([""], "", ""))
            self.assertEqual(Reader(table).ended((0, 0)), "")

    def test_known(self):
        table = Table(NO_TWO, 2, 3, 2)
        reader = Reader(table)
        self.assertIsNone(reader.feed("000"))
        self.assertEqual(told(reader), (["00", "01"], "", "000"))
        self.assertIsNone(reader.feed("101"))
        self.assertEqual(told(reader), (["0111"], "0111", "000101"))
        reader.feed("00")
        self.assertEqual(told(reader), (["0111"], "0111", "00010100"))
        # Behind 1 only 000, 001 and 010 are written.
        reader.feed("1")
        self.assertEqual(told(reader), (["011110"], "011110", "000101001"))

    def test_what_is_left_over_leaves_all_messages_open(self):
        table = Table(NO_TWO, 2, 3, 2)
        reader = fed(table, "0001")
        # Only the share 1 writes a block that begins with 1, but whole blocks alone tell what is open.
        self.assertEqual(told(reader), (["00", "01"], "", "0001"))
        reader.feed("00")
        self.assertEqual(told(reader), (["0101", "0110"], "01", "000100"))

    def test_against_all_messages(self):
        for made in many_made(60, 21):
            table, slow = Table(*made), SlowTable(*made)
            p, q = made[1], made[2]
            for many in range(2 * q + 2 if p < 3 else q + 2):
                for row in ("".join(signs) for signs in itertools.product("01", repeat=many)):
                    reader = Reader(table)
                    if slow_goes_on(slow, row):
                        reader.feed(row)
                        open_ones = slow_choices(slow, row)
                        self.assertEqual(told(reader), (open_ones, slow_sure(open_ones, p), row), (made, row))
                    else:
                        self.refuses(Unread, reader.feed, row)
                        self.assertEqual(told(reader), ([""], "", ""))

    def test_cut_anywhere(self):
        chance = random.Random(4)
        for made in many_made(60, 22) + [made for made, table in made_tables()]:
            table, p = Table(*made), made[1]
            message = "".join(chance.choice("01") for _ in range(10 * p))
            row, pair = table.write(message)
            whole = fed(table, row)
            self.assertIn(message, whole.choices())
            self.assertTrue(message.startswith(whole.sure()))
            self.assertEqual(whole.ended(pair), message)
            cuts = sorted(chance.randrange(len(row) + 1) for _ in range(4))
            pieces = [row[one:other] for one, other in zip([0] + cuts, cuts + [len(row)])]
            for other in (fed(table, *row), fed(table, *pieces), fed(table, *cut(row, made[2]))):
                self.assertEqual(told(other), told(whole))
                for any_pair in table.pairs():
                    if any_pair in [table.write(one)[1] for one in whole.choices()]:
                        self.assertEqual(other.ended(any_pair), whole.ended(any_pair))
                    else:
                        self.refuses(Unread, other.ended, any_pair)

    def test_what_is_open_rises_and_begins_with_what_is_sure(self):
        for made, table in made_tables():
            reader = Reader(table)
            for sign in table.write("0110" * 3 * made[1])[0]:
                reader.feed(sign)
                open_ones = reader.choices()
                self.assertEqual(open_ones, sorted(set(open_ones)))
                self.assertTrue(all(one.startswith(reader.sure()) for one in open_ones))
                self.assertEqual(len(reader.sure()) % made[1], 0)
                self.assertLessEqual(len(open_ones), max(table.weights()))

    def test_sure_of_a_multiple_of_p_signs(self):
        table = Table(FREE, 3, 3, 2)
        reader = fed(table, "000")
        # Both begin with 00, which is no multiple of three signs.
        self.assertEqual(told(reader), (["000", "001"], "", "000"))
        reader.feed("011")
        self.assertEqual(told(reader), (["000110", "000111"], "000", "000011"))

    def test_a_long_row(self):
        table = Table(Rule(high=2), 1, 2, 12)
        message = "011010011001" * 700
        row, pair = table.write(message)
        reader = fed(table, row)
        self.assertEqual(reader.ended(pair), message)
        self.assertEqual(reader.fed(), row)


class RefusedTest(RefusalCase):
    def test_a_bad_row(self):
        reader = fed(Table(NO_TWO, 1, 2, 1), "000")
        kept = told(reader)
        for piece, at in (("2", 0), ("11?", 2), ("?", 0), ("0 ", 1), ("11111\n", 5)):
            self.refuses(BadRow, reader.feed, piece, at=at)
            self.assertEqual(told(reader), kept)
        reader.feed("1")
        self.assertEqual(reader.fed(), "0001")

    def test_a_piece_that_no_message_writes(self):
        reader = fed(Table(NO_TWO, 2, 3, 2), "0")
        for piece in ("11", "1000011", "0011111111", "0010110"):
            self.refuses(Unread, reader.feed, piece)
            self.assertEqual(told(reader), ([""], "", "0"))
        reader.feed("00101")
        self.assertEqual(reader.choices(), ["0111"])

    def test_a_block_begun(self):
        table = Table(NO_TWO, 2, 3, 2)
        # From (0, 0) on 000, 001 and 010 are written, so nothing begins with 1 or 011.
        reader = Reader(table)
        self.refuses(Unread, reader.feed, "1")
        self.refuses(Unread, reader.feed, "10")
        reader.feed("01")
        self.refuses(Unread, reader.feed, "1")
        reader.feed("0")
        self.refuses(Unread, reader.feed, "11")
        self.assertEqual(told(reader), (["11"], "11", "010"))
        # Behind 001 the writer stands at (1, 0), from which no block begins with 1.
        reader = fed(table, "001")
        self.refuses(Unread, reader.feed, "1")
        reader.feed("0")

    def test_a_lot_that_is_never_taken(self):
        reader = Reader(Table(GAPS, 1, 2, 1))
        self.refuses(Unread, reader.feed, "10")
        self.assertEqual(told(reader), ([""], "", ""))

    def test_the_end(self):
        table = Table(NO_TWO, 2, 3, 2)
        reader = fed(table, "000")
        self.assertEqual(reader.ended((0, 0)), "00")
        self.assertEqual(reader.ended((0, 1)), "01")
        self.refuses(Unread, reader.ended, (1, 0))
        for pair in ((0, 2), (-1, 0), (2, 0), (1, 1), (0, -1), (10 ** 29, 0)):
            self.refuses(BadPair, reader.ended, pair)
        for piece in ("0", "1"):
            reader.feed(piece)
            for pair in ((0, 0), (1, 0), (5, 5), (-1, 0)):
                self.refuses(BadLength, reader.ended, pair, by=3)
        self.assertEqual(told(reader), (["00", "01"], "", "00001"))
        reader.feed("0")
        self.assertEqual(reader.ended((0, 0)), "0011")
        self.assertEqual(reader.ended(pair=(0, 1)), "0100")


class TwinTest(RefusalCase):
    def test_fed_apart(self):
        table = Table(NO_TWO, 2, 3, 2)
        reader = fed(table, "0001")
        twin = reader.twin()
        self.assertIsInstance(twin, Reader)
        self.assertEqual(told(twin), told(reader))
        reader.feed("01")
        self.assertEqual(told(twin), (["00", "01"], "", "0001"))
        twin.feed("00")
        self.assertEqual(told(reader), (["0111"], "0111", "000101"))
        self.assertEqual(told(twin), (["0101", "0110"], "01", "000100"))
        self.assertEqual(twin.ended((0, 0)), "0101")
        self.refuses(Unread, reader.ended, (0, 0))

    def test_two_readers_of_one_table(self):
        table = Table(FREE, 1, 1)
        one, other = Reader(table), Reader(table=table)
        one.feed(piece="0001")
        self.assertEqual(told(other), ([""], "", ""))
        self.assertEqual(table, Table(FREE, 1, 1))

    def test_new_lists(self):
        reader = fed(Table(FREE, 1, 1), "0")
        kept = reader.choices()
        self.assertIsInstance(kept, list)
        kept.clear()
        self.assertEqual(reader.choices(), slow_choices(SlowTable(FREE, 1, 1), "0"))


if __name__ == "__main__":
    unittest.main()

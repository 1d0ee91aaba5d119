"""[14] to [16], and the interface's section on tables."""

import itertools
import unittest

from cases import RefusalCase
from oracle import all_rows
from pulsewright.errors import BadLength, BadNumber, BadPace, BadPair, BadRow, NoTable, TooWide, Unread
from pulsewright.rules import Rule
from pulsewright.tables import Table
from pulsewright.weights import fit, paces, steps, weights
from pulsewright.webs import web
from samples import FREE, GAPS, JUST_FORTY, NO_TWO, NONE_LASTS, SMALL, WIDE, WIDE_RULE
from slow_tables import SlowTable, messages
from table_samples import MADE, PACES, made_tables, many_made

FAR = 10 ** 29
NO_PAIRS = [(-1, 0), (0, -1), (0, 8), (0, 9), (1, 8), (2, 0), (FAR, 0), (0, FAR), (-FAR, -FAR)]


class MadeTest(RefusalCase):
    def test_known(self):
        table = Table(NO_TWO, 2, 3, 2)
        self.assertEqual(table.rule(), NO_TWO)
        self.assertEqual(table.pace(), (2, 3))
        self.assertEqual(table.weights(), [2, 1])
        self.assertEqual(table.pairs(), [(0, 0), (0, 1), (1, 0)])
        self.assertEqual(len(table), 3)
        self.assertEqual(table.lots(0), [
            ("000", 0, 0), ("000", 0, 1), ("001", 1, 0), ("010", 0, 0), ("010", 0, 1), ("100", 0, 0), ("100", 0, 1),
            ("101", 1, 0)])
        self.assertEqual(table.lots(1), [("000", 0, 0), ("000", 0, 1), ("001", 1, 0), ("010", 0, 0), ("010", 0, 1)])
        self.assertEqual(table.step((0, 0), "00"), ("000", (0, 0)))
        self.assertEqual(table.step((0, 0), "11"), ("010", (0, 0)))
        self.assertEqual(table.step((0, 1), "00"), ("010", (0, 1)))
        self.assertEqual(table.step((0, 1), "11"), ("101", (1, 0)))
        # The fifth lot of stand 1 is never taken.
        self.assertEqual(table.step((1, 0), "11"), ("010", (0, 0)))

    def test_most_left_out_is_eight(self):
        for rule, p, q in ((FREE, 1, 1), (NO_TWO, 2, 3), (GAPS, 1, 2)):
            self.assertEqual(Table(rule, p, q).weights(), weights(rule, p, q, 8))
            self.assertEqual(Table(rule, p, q), Table(rule, p, q, 8))

    def test_most_at_both_ends(self):
        self.assertEqual(Table(FREE, 1, 1, 1).pairs(), [(0, 0)])
        self.assertEqual(Table(FREE, 1, 1, 12).pairs(), [(0, share) for share in range(12)])
        self.refuses(NoTable, Table, NO_TWO, 2, 3, 1)
        self.assertEqual(Table(NO_TWO, 2, 3, 12).weights(), [12, 8])

    def test_a_table_is_made_just_where_the_pace_is_good(self):
        for rule in SMALL[::5] + JUST_FORTY[:1]:
            for most in (1, 3, 8):
                good = paces(rule, most)
                for p, q in PACES:
                    if (p, q) in good:
                        self.assertEqual(Table(rule, p, q, most).weights(), weights(rule, p, q, most))
                    else:
                        self.refuses(NoTable, Table, rule, p, q, most)

    def test_no_table_without_any_lasting_row(self):
        for rule in NONE_LASTS:
            for p, q in PACES:
                self.refuses(NoTable, Table, rule, p, q)

    def test_refusals_in_their_order(self):
        for rule in (FREE, WIDE_RULE, NONE_LASTS[0]):
            for p, q, most, part in ((0, 0, 0, "p"), (4, 5, 13, "p"), (-FAR, 1, 8, "p"), (1, 0, 0, "q"),
                                     (3, 5, 8, "q"), (3, FAR, 13, "q"), (1, 1, 0, "most"), (3, 4, 13, "most"),
                                     (3, 1, -FAR, "most")):
                self.refuses(BadPace, Table, rule, p, q, most, part=part)
        for rule, stands in WIDE:
            self.refuses(TooWide, Table, rule, 3, 1, stands=stands)
            self.refuses(TooWide, Table, rule, 1, 2, 12, stands=stands)

    def test_lots_of_all_stands(self):
        noughts = 0
        for made, table in made_tables():
            rule, p, q, most = made
            slow = SlowTable(*made)
            self.assertTrue(fit(rule, p, q, table.weights()))
            for stand, step in enumerate(steps(rule, q)):
                self.assertEqual(table.lots(stand), slow.lots[stand])
                self.assertEqual([row for row, goal, share in table.lots(stand) if share == 0],
                                 [row for row, goal in step if slow.weights[goal]])
                noughts += slow.weights[stand] == 0 and bool(table.lots(stand))
            self.assertEqual(table.pairs(), slow.pairs)
        self.assertGreater(noughts, 0)

    def test_lots_of_a_stand_of_weight_nought(self):
        table = Table(GAPS, 1, 2, 1)
        self.assertEqual(table.weights(), [1, 1, 1, 1, 0])
        self.assertEqual(table.lots(4), [("10", 1, 0)])
        self.assertNotIn((4, 0), table.pairs())
        self.refuses(BadPair, table.step, (4, 0), "0")

    def test_lots_of_what_is_no_stand(self):
        for made, table in made_tables():
            for stand in (-1, len(web(made[0])), FAR, -FAR):
                self.refuses(BadNumber, table.lots, stand)

    def test_kinds_and_new_lists(self):
        table = Table(NO_TWO, 1, 2)
        for asked in (table.weights, table.pairs, lambda: table.lots(1)):
            told = asked()
            self.assertIsInstance(told, list)
            kept = list(told)
            told.clear()
            self.assertEqual(asked(), kept)
        for told in (table.pairs()[0], table.lots(0)[0], table.pace(), table.step((0, 0), "1"),
                     table.step((0, 0), "1")[1], table.write(""), table.write("")[1]):
            self.assertIsInstance(told, tuple)

    def test_the_rule_that_was_handed_in_is_another_one(self):
        rule = Rule(["11"])
        table = Table(rule, 1, 2)
        self.assertIsNot(table.rule(), rule)
        self.assertEqual(rule, NO_TWO)
        self.assertEqual(table.rule().barring("00"), Rule(["11", "00"]))
        self.assertEqual(table.rule(), NO_TWO)

    def test_keywords(self):
        table = Table(rule=NO_TWO, p=1, q=2, most=3)
        self.assertEqual(table.lots(stand=0), table.lots(0))
        self.assertEqual(table.step(pair=(0, 0), signs="1"), table.step((0, 0), "1"))
        self.assertEqual(table.write(message="01", pair=(1, 0)), table.write("01", (1, 0)))
        row, pair = table.write(message="01")
        self.assertEqual(table.read(row=row, pair=pair), "01")


class WriteTest(RefusalCase):
    def test_each_step_is_the_lot_that_the_signs_tell(self):
        for made, table in made_tables():
            slow = SlowTable(*made)
            for pair in table.pairs():
                for signs in messages(made[1], 1):
                    self.assertEqual(table.step(pair, signs), slow.step(pair, signs))

    def test_messages_from_all_pairs(self):
        for made, table in made_tables()[:14]:
            slow = SlowTable(*made)
            for pair in table.pairs():
                for many in (0, 1, 2):
                    for message in messages(made[1], many):
                        self.assertEqual(table.write(message, pair), slow.write(message, pair))

    def test_what_is_written_is_lasting_and_of_the_right_length(self):
        for made, table in made_tables():
            rule, p, q, most = made
            for message in ("", "0" * 6 * p, "1" * 6 * p, ("01" * 3 + "10" * 3)[:6] * p):
                row, pair = table.write(message)
                self.assertEqual(len(row) * p, len(message) * q)
                self.assertTrue(rule.lets(row))
                self.assertIn(pair, table.pairs())

    def test_the_message_without_signs(self):
        for made, table in made_tables():
            self.assertEqual(table.write(""), ("", (0, 0)))
            self.assertEqual(table.write("", None), ("", (0, 0)))
            for pair in table.pairs():
                self.assertEqual(table.write("", pair), ("", pair))

    def test_written_on(self):
        for made, table in made_tables():
            p = made[1]
            row, pair = table.write("10" * p)
            more, end = table.write("0" * p, pair)
            self.assertEqual(table.write("10" * p + "0" * p), (row + more, end))

    def test_a_long_message(self):
        table = Table(NO_TWO, 2, 3)
        message = "0110100110010110" * 625
        row, pair = table.write(message)
        self.assertEqual(len(row), 15000)
        self.assertEqual(table.read(row, pair), message)

    def test_step_refusals_in_their_order(self):
        table = Table(NO_TWO, 2, 3)
        for pair in NO_PAIRS:
            for signs in ("00", "2", "0", "", "000"):
                self.refuses(BadPair, table.step, pair, signs)
        for signs, at in (("2", 0), ("0?", 1), ("00-", 2), ("0 1", 1)):
            self.refuses(BadRow, table.step, (0, 0), signs, at=at)
        for signs in ("", "0", "000", "0000"):
            self.refuses(BadLength, table.step, (0, 0), signs, by=2)

    def test_write_refusals_in_their_order(self):
        table = Table(NO_TWO, 2, 3)
        for pair in NO_PAIRS + [None, (0, 0)]:
            for message, at in (("2", 0), ("0?", 1), ("00-", 2), ("01 1", 2), ("0101\n", 4)):
                self.refuses(BadRow, table.write, message, pair, at=at)
            for message in ("0", "000", "1" * 19999):
                self.refuses(BadLength, table.write, message, pair, by=2)
        for pair in NO_PAIRS:
            for message in ("", "00", "0101"):
                self.refuses(BadPair, table.write, message, pair)
        for p, q in ((1, 2), (3, 4)):
            other = Table(FREE, p, q)
            for many in range(1, 7):
                if many % p:
                    self.refuses(BadLength, other.write, "0" * many, by=p)


class ReadTest(RefusalCase):
    def test_known(self):
        table = Table(NO_TWO, 2, 3, 2)
        self.assertEqual(table.write("1101"), ("010000", (0, 1)))
        self.assertEqual(table.read("010000", (0, 1)), "1101")
        self.assertEqual(table.read("010000", (0, 0)), "1100")
        self.refuses(Unread, table.read, "010000", (1, 0))
        self.assertEqual(table.read("", (0, 0)), "")
        self.refuses(Unread, table.read, "", (0, 1))
        self.refuses(Unread, table.read, "", (1, 0))
        # From (0, 0) on the lots of the share 1 are not written.
        self.refuses(Unread, table.read, "101", (1, 0))
        self.refuses(Unread, table.read, "100", (0, 0))
        # A row that can't be gone.
        self.refuses(Unread, table.read, "011", (1, 0))

    def test_all_that_can_have_been_written(self):
        for made, table in [(made, Table(*made)) for made in many_made(60, 1)]:
            rule, p, q, most = made
            slow = SlowTable(*made)
            for many in (0, 1, 2):
                written = slow.all_written(many)
                self.assertEqual(len(set(written.values())), len(written))
                known = {told: message for message, told in written.items()}
                for row in (row for row in all_rows(q * many) if len(row) == q * many):
                    for pair in table.pairs()[:25]:
                        if (row, pair) in known:
                            self.assertEqual(table.read(row, pair), known[(row, pair)])
                        else:
                            self.refuses(Unread, table.read, row, pair)

    def test_longer_messages_there_and_back(self):
        for made in many_made(60, 2) + [made for made, table in made_tables()]:
            table = Table(*made)
            slow = SlowTable(*made)
            many = 9 // made[1]
            seen = set()
            for message, told in slow.all_written(many).items():
                self.assertEqual(table.write(message), told)
                self.assertEqual(table.read(*told), message)
                self.assertNotIn(told, seen)
                seen.add(told)

    def test_all_other_pairs_tell_other_messages_or_none(self):
        for made, table in made_tables():
            slow = SlowTable(*made)
            written = {told: message for message, told in slow.all_written(2).items()}
            for row, end in list(written)[::5]:
                for pair in table.pairs():
                    if (row, pair) in written:
                        self.assertEqual(table.read(row, pair), written[(row, pair)])
                    else:
                        self.refuses(Unread, table.read, row, pair)

    def test_lots_beyond_those_taken_are_not_read(self):
        tried = 0
        for made, table in made_tables():
            for stand, weight in enumerate(table.weights()):
                beyond = table.lots(stand)[weight * 2 ** made[1]:]
                if stand == 0:
                    for row, goal, share in beyond:
                        self.refuses(Unread, table.read, row, (goal, share))
                        tried += 1
        self.assertGreater(tried, 0)

    def test_refusals_in_their_order(self):
        table = Table(NO_TWO, 2, 3)
        for pair in NO_PAIRS + [(0, 0), (1, 0)]:
            for row, at in (("2", 0), ("0?", 1), ("00-", 2), ("?11", 0), ("111111x", 6)):
                self.refuses(BadRow, table.read, row, pair, at=at)
            for row in ("0", "11", "0000", "1" * 20):
                self.refuses(BadLength, table.read, row, pair, by=3)
        for pair in NO_PAIRS:
            for row in ("", "000", "111"):
                self.refuses(BadPair, table.read, row, pair)
        self.refuses(Unread, table.read, "111", (0, 0))
        self.refuses(Unread, table.read, "001", (0, 0))


class EqualTest(RefusalCase):
    def test_of_rules_that_are_alike(self):
        self.assertTrue(Table(NO_TWO, 1, 2) == Table(Rule(low=1), 1, 2))
        self.assertFalse(Table(NO_TWO, 1, 2) != Table(Rule(low=1), 1, 2))
        self.assertTrue(Table(FREE, 1, 1) == Table(FREE, 1, 1))

    def test_another_most_or_pace(self):
        self.assertFalse(Table(NO_TWO, 1, 2, 8) == Table(NO_TWO, 1, 2, 7))
        self.assertFalse(Table(NO_TWO, 1, 2) == Table(NO_TWO, 1, 3))
        self.assertFalse(Table(NO_TWO, 1, 3) == Table(NO_TWO, 2, 3))
        self.assertTrue(Table(NO_TWO, 1, 2) != Table(GAPS, 1, 2))
        self.assertTrue(Table(GAPS, 1, 2, 1) != Table(FREE, 1, 2, 1))

    def test_another_most_with_the_same_weights(self):
        for rule, p, q, most in ((Rule(low=2, high=7), 1, 2, 4), (Rule(low=2, high=7), 1, 2, 6),
                                 (Rule(["00011", "010"], high=6), 2, 3, 3)):
            self.assertEqual(weights(rule, p, q, most), weights(rule, p, q, most + 1))
            self.assertTrue(Table(rule, p, q, most) == Table(rule, p, q, most + 1))
            self.assertFalse(Table(rule, p, q, most) == Table(rule, p, q, 12))

    def test_against_what_is_written(self):
        tables = [(made, Table(*made)) for made in many_made(70, 4)]

        def told(table):
            signs = messages(table.pace()[0], 1)
            return table.pace(), [(pair, [table.step(pair, one) for one in signs]) for pair in table.pairs()]

        for (made, one), (other_made, other) in itertools.combinations(tables, 2):
            self.assertEqual(one == other, told(one) == told(other), (made, other_made))

    def test_unlike_rules_whose_pairs_write_the_same(self):
        for q, most in ((2, 1), (2, 2), (3, 1), (3, 2)):
            one, other = Table(Rule(["000"]), 1, q, most), Table(Rule(["0001"]), 1, q, most)
            self.assertNotEqual(web(one.rule()), web(other.rule()))
            self.assertEqual(one.pairs(), other.pairs())
            self.assertTrue(one == other)

    def test_to_nothing_else(self):
        table = Table(FREE, 1, 1, 1)
        for other in (None, 1, (1, 1), [(0, 0)], "", FREE, {(0, 0): 1}):
            self.assertFalse(table == other)
            self.assertTrue(table != other)

    def test_len_is_how_many_pairs(self):
        for made, table in made_tables():
            self.assertEqual(len(table), sum(weights(*made)))
            self.assertEqual(len(table), len(table.pairs()))


class ApartTest(RefusalCase):
    def test_questions_and_refusals_change_nothing(self):
        table = Table(NO_TWO, 2, 3)
        like = Table(NO_TWO, 2, 3)
        for asked in (lambda: table.write("2"), lambda: table.read("111", (0, 0)), lambda: table.lots(-1),
                      lambda: table.step((9, 9), "0"), lambda: table.write("0")):
            with self.assertRaises(ValueError):
                asked()
        table.write("0110")
        table.read("", (0, 0))
        self.assertEqual(table, like)
        self.assertEqual(table.lots(0), like.lots(0))
        self.assertEqual(table.write("1101"), like.write("1101"))

    def test_most_of_the_samples_make_tables(self):
        self.assertGreater(len(made_tables()), len(MADE) - 6)


if __name__ == "__main__":
    unittest.main()

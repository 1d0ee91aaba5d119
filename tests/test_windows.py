"""[17] to [20], and the interface's section on windows."""

import random
import unittest

from cases import RefusalCase
from oracle import gone
from pulsewright.errors import BadLength, BadRow, Endless, TooWide
from pulsewright.rules import Rule
from pulsewright.tables import Table
from pulsewright.webs import web
from pulsewright.windows import ahead, blur, doubt, memory, slide, slides
from samples import FREE, GAPS, JUST_FORTY, NO_TWO, NONE_LASTS, SMALL, SWINGING, WIDE, chance_rules
from slow_tables import SlowTable, cut, slow_ahead, slow_memory, slow_slide
from table_samples import made_tables, many_made


def many_rules():
    """Rules whose web isn't too wide."""
    told = []
    for rule in SMALL[::2] + JUST_FORTY + NONE_LASTS + chance_rules(150, 5):
        try:
            web(rule)
            told.append(rule)
        except TooWide:
            pass
    return told


def sliding(many, seed):
    """Tables that slide, with what they are made of."""
    told = [(made, Table(*made)) for made in many_made(many, seed)] + made_tables()
    return [(made, table) for made, table in told if slides(table)]


def spoilt_by(faults, table, row):
    """The blocks that [20] leaves out."""
    back, forth, q = memory(table.rule()), ahead(table), table.pace()[1]
    return [at for at in range(len(row) // q)
            if any(at * q - back <= fault < (at + 1 + forth) * q for fault in faults)]


class MemoryTest(RefusalCase):
    def test_known(self):
        for rule, told in ((FREE, 0), (Rule(["1"]), 0), (NO_TWO, 1), (GAPS, 3), (Rule(low=1, high=7), 7),
                           (SWINGING, 1), (Rule(span=2), None), (Rule(span=3), None), (Rule(["01"]), 1),
                           (Rule(low=2), 2), (Rule(high=2), 2), (Rule(["000", "111"]), 2), (JUST_FORTY[0], None)):
            self.assertEqual(memory(rule), told, repr(rule))

    def test_nought_where_there_is_no_stand(self):
        for rule in NONE_LASTS:
            self.assertEqual(memory(rule), 0)
            self.assertIsNone(blur(rule))

    def test_against_all_rows_gone_from_all_stands(self):
        kinds = set()
        for rule in many_rules():
            told = memory(rule)
            kinds.add(told)
            self.assertEqual(slow_memory(web(rule), 24), told, repr(rule))
        self.assertLessEqual({None, 0, 1, 2, 3, 4, 5, 6, 7}, kinds)

    def test_the_blur_walked(self):
        for rule in many_rules():
            stands, many, told = web(rule), memory(rule), blur(rule)
            if many == 0:
                self.assertIsNone(told)
                continue
            self.assertIsInstance(told, tuple)
            self.assertEqual(len(told), 4 if many is None else 3)
            one, other = gone(stands, told[0], told[2]), gone(stands, told[1], told[2])
            self.assertIsNotNone(one)
            self.assertIsNotNone(other)
            self.assertNotEqual(one, other)
            if many is None:
                self.assertGreater(len(told[3]), 0)
                self.assertEqual(gone(stands, one, told[3]), one)
                self.assertEqual(gone(stands, other, told[3]), other)
            else:
                self.assertEqual(len(told[2]), many - 1)

    def test_asked_again(self):
        for rule in many_rules()[::3]:
            like = Rule(rule.words(), rule.low(), rule.high(), rule.span())
            self.assertEqual(blur(rule), blur(rule))
            self.assertEqual(blur(rule), blur(like))
            self.assertEqual(memory(rule=rule), memory(like))
            self.assertEqual(rule, like)

    def test_too_wide(self):
        for rule, stands in WIDE:
            self.refuses(TooWide, memory, rule, stands=stands)
            self.refuses(TooWide, blur, rule, stands=stands)


class AheadTest(RefusalCase):
    def test_known(self):
        for made, told in (((FREE, 1, 1, 1), 0), ((FREE, 1, 1, 8), 3), ((FREE, 3, 3, 2), 1), ((FREE, 1, 2, 3), None),
                           ((NO_TWO, 1, 2, 8), 3), ((NO_TWO, 1, 2, 1), 0), ((NO_TWO, 2, 3, 2), None),
                           ((GAPS, 1, 2, 8), 4), ((GAPS, 1, 2, 2), 2), ((Rule(["01110", "101"], high=7), 3, 4, 12), 18)):
            self.assertEqual(ahead(Table(*made)), told, made)

    def test_nought_where_no_weight_is_above_one(self):
        for made in many_made(80, 6):
            table = Table(*made)
            if max(table.weights()) == 1:
                self.assertEqual(ahead(table), 0)
                self.assertIsNone(doubt(table))
            else:
                self.assertNotEqual(ahead(table), 0)

    def test_against_any_two_shares_by_the_same_blocks(self):
        kinds = set()
        for made in many_made(70, 7) + [made for made, table in made_tables() if sum(table.weights()) < 100]:
            told = ahead(Table(*made))
            kinds.add(told)
            self.assertEqual(slow_ahead(SlowTable(*made), 12), told if told is None or told <= 12 else None, made)
        self.assertLessEqual({None, 0, 1, 2, 3, 4}, kinds)

    def test_the_doubt_written_out(self):
        tables = [(made, Table(*made)) for made in many_made(150, 8)] + made_tables()
        seen = set()
        for made, table in tables:
            many, told, p = ahead(table), doubt(table), made[1]
            seen.add(many)
            if many == 0:
                self.assertIsNone(told)
                continue
            self.assertIsInstance(told, tuple)
            self.assertEqual(len(told), 7 if many is None else 5)
            stand, share, other = told[:3]
            self.assertNotEqual(share, other)
            row, pair = table.write(told[3], (stand, share))
            other_row, other_pair = table.write(told[4], (stand, other))
            self.assertEqual(row, other_row)
            self.assertEqual(pair[0], other_pair[0])
            self.assertNotEqual(pair, other_pair)
            if many is None:
                self.assertGreaterEqual(len(told[5]), p)
                row, back = table.write(told[5], pair)
                other_row, other_back = table.write(told[6], other_pair)
                self.assertEqual((row, back, other_back), (other_row, pair, other_pair))
            else:
                self.assertEqual(len(told[3]), p * (many - 1))
        self.assertLessEqual({None, 0, 1, 2, 3, 4, 18}, seen)

    def test_asked_again(self):
        for made, table in made_tables():
            self.assertEqual(doubt(table), doubt(table))
            self.assertEqual(doubt(table), doubt(Table(*made)))
            self.assertEqual(ahead(table=table), ahead(Table(*made)))
            self.assertEqual(table, Table(*made))

    def test_slides(self):
        seen = set()
        for made, table in made_tables():
            told = slides(table)
            self.assertIs(told, memory(made[0]) is not None and ahead(table) is not None)
            seen.add((memory(made[0]) is None, ahead(table) is None))
        self.assertEqual(len(seen), 4)


class SlideTest(RefusalCase):
    def test_known(self):
        table = Table(NO_TWO, 1, 2, 1)
        self.assertEqual((memory(NO_TWO), ahead(table)), (1, 0))
        row, pair = table.write("0110")
        self.assertEqual(row, "00010100")
        self.assertEqual(slide(table, row), ["0", "1", "1", "0"])
        self.assertEqual(slide(table, row, True), [None, "1", "1", "0"])
        self.assertEqual(slide(table, "0001?100"), ["0", "1", None, "0"])
        self.assertEqual(slide(table, "000?0100"), ["0", None, None, "0"])
        # 10 is the third lot of stand 0: it is never taken. 11 can't be gone.
        self.assertEqual(slide(table, "1000"), [None, "0"])
        self.assertEqual(slide(table, "1100"), [None, "0"])
        self.assertEqual(slide(table, "0110"), ["1", None])

    def test_a_row_without_signs(self):
        for made, table in sliding(20, 9):
            for late in (False, True):
                self.assertEqual(slide(table, "", late), [])

    def test_a_written_row(self):
        for made, table in sliding(120, 10):
            p, forth = made[1], ahead(table)
            chance = random.Random(1)
            message = "".join(chance.choice("01") for _ in range(12 * p))
            row, pair = table.write(message)
            told = cut(message, p)
            self.assertEqual(slide(table, row), told[:max(0, 12 - forth)] + [None] * min(12, forth))

    def test_cut_anywhere_and_told_to_begin_late(self):
        for made, table in sliding(60, 11):
            rule, p, q, most = made
            message = ("0110" * 12)[:12 * p]
            row, pair = table.write(message)
            for blocks in (0, 1, 3, 7):
                told = slide(table, row[blocks * q:], late=True)
                for at, signs in enumerate(told):
                    if at * q < memory(rule) or at + ahead(table) >= len(told):
                        self.assertIsNone(signs)
                    else:
                        self.assertEqual(signs, message[(blocks + at) * p:(blocks + at + 1) * p])

    def test_against_the_document_s_words(self):
        chance = random.Random(2)
        told_at_all = 0
        for made, table in sliding(110, 12):
            rule, p, q, most = made
            slow, back, forth = SlowTable(*made), memory(rule), ahead(table)
            if forth > 5:
                continue
            for turn in range(24):
                message = "".join(chance.choice("01") for _ in range(chance.randrange(12) * p))
                row = list(table.write(message)[0])
                for _ in range(chance.randrange(4)):
                    if row:
                        row[chance.randrange(len(row))] = chance.choice("01?")
                row = "".join(row)
                if turn > 15:
                    row = "".join(chance.choice("0011?"[:4 + turn % 2]) for _ in range(q * 7))
                for late in (False, True):
                    told = slide(table, row, late)
                    self.assertEqual(told, slow_slide(slow, back, forth, row, late), (made, row, late))
                    told_at_all += len(told) - told.count(None)
        self.assertGreater(told_at_all, 1000)

    def test_what_stands_behind_faults_is_told(self):
        chance = random.Random(3)
        for made, table in sliding(100, 13):
            p, q = made[1], made[2]
            message = "".join(chance.choice("01") for _ in range(20 * p))
            row = table.write(message)[0]
            for faults in ([], [0], [len(row) - 1], chance.sample(range(len(row)), 2), chance.sample(range(len(row)), 5)):
                for lost in (False, True):
                    wrong = "".join(sign if at not in faults else "?" if lost else "10"[int(sign)]
                                    for at, sign in enumerate(row))
                    spoilt = spoilt_by(faults, table, row)
                    told = slide(table, wrong)
                    clean = slide(table, row)
                    for at in range(20):
                        if at not in spoilt:
                            self.assertEqual(told[at], clean[at])
                            self.assertIn(told[at], (None, message[at * p:at * p + p]))
                        elif lost:
                            self.assertIsNone(told[at])

    def test_a_goal_of_weight_nought(self):
        table = Table(GAPS, 1, 2, 1)
        self.assertEqual(table.weights()[4], 0)
        # 0100 and a 0 more lead to stand 4, whose weight is nought.
        self.assertEqual(slide(table, "01000010"), slow_slide(SlowTable(GAPS, 1, 2, 1), 3, 0, "01000010", False))
        self.assertEqual(slide(table, "0100")[0], table.read("01", (2, 0)))
        self.assertIsNone(slide(table, "0010000100")[2])

    def test_short_rows(self):
        table = Table(GAPS, 1, 2, 8)
        row = table.write("01101")[0]
        self.assertEqual(ahead(table), 4)
        for blocks in range(5):
            self.assertEqual(slide(table, row[:2 * blocks]), [None] * blocks)
        self.assertEqual(slide(table, row), ["0", None, None, None, None])
        self.assertEqual(slide(table, row, late=True), [None] * 5)

    def test_a_lost_sign_ahead_where_fewer_than_the_memory_stand_there(self):
        table = Table(GAPS, 1, 2, 1)
        row = table.write("0000")[0]
        self.assertEqual(memory(GAPS), 3)
        self.assertEqual(slide(table, row), ["0"] * 4)
        self.assertEqual(slide(table, "?" + row[1:]), [None, None, "0", "0"])
        self.assertEqual(slide(table, row[:1] + "?" + row[2:]), [None, None, None, "0"])

    def test_kinds_keywords_and_new_lists(self):
        table = Table(NO_TWO, 1, 2, 1)
        told = slide(table=table, row="0001", late=False)
        self.assertEqual(told, ["0", "1"])
        self.assertIsInstance(told, list)
        told.clear()
        self.assertEqual(slide(table, "0001"), ["0", "1"])
        self.assertIs(slides(table), True)

    def test_refusals_in_their_order(self):
        endless = [Table(FREE, 1, 2, 3), Table(Rule(span=3), 1, 2), Table(NO_TWO, 2, 3)]
        for table in endless + [Table(NO_TWO, 1, 2), Table(FREE, 3, 3)]:
            q = table.pace()[1]
            for late in (False, True):
                for row, at in (("2", 0), ("01x", 2), ("?? ", 2), ("?", None), ("0101\n", 4), ("-", 0)):
                    if at is not None:
                        self.refuses(BadRow, slide, table, row, late, at=at)
                self.refuses(BadLength, slide, table, "?", late, by=q)
                self.refuses(BadLength, slide, table, "0" * (q + 1), late, by=q)
        for table in endless:
            self.assertIs(slides(table), False)
            for row in ("", "000000", "??????"):
                self.refuses(Endless, slide, table, row)
                self.refuses(Endless, slide, table, row, True)


if __name__ == "__main__":
    unittest.main()

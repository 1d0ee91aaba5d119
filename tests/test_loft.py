"""[22] to [25], and the interface's section on the loft."""

import random
import unittest

from cases import RefusalCase
from loft_samples import asked, chance_deed, chance_lofts, redone, small_loft, whole
from pulsewright.errors import (
    Absent, BadLength, BadName, BadPace, BadRow, BadRule, Endless, Full, Held, LoftError, NoSign, NoTable,
    NothingLeft, PulseError, Taken, TooLong, TooWide)
from pulsewright.loft import Loft
from pulsewright.rules import Rule
from pulsewright.tables import Table
from pulsewright.webs import web
from pulsewright.weights import paces
from pulsewright.windows import ahead, memory, slide
from samples import NO_TWO, NONE_LASTS, WIDE_RULE

FAR = 10 ** 29
NO_NAMES = ["", "abcdefghi", "A", "aB", "a1", "a b", " a", "a ", "-", "a\n", "z{", "`a", "a" * 600]
NAMES = ["a", "b", "c", "d", "e", "f", "g", "h", "i"]


class LoftCase(RefusalCase):
    def unchanged(self, error, loft, asking, *given, **fields):
        """Refused, by method and by deed, and nothing is changed by it."""
        kept = whole(loft)
        self.refuses(error, asking, *given, **fields)
        self.assertEqual(whole(loft), kept)


class RuleTest(LoftCase):
    def test_told(self):
        loft = Loft()
        self.assertIsNone(loft.rule("ab", ["11", "00"], 0, None, 2))
        self.assertIsNone(loft.rule("b"))
        self.assertEqual(loft.rules(), ["ab", "b"])
        self.assertEqual(loft.rule_of("ab"), Rule(["00", "11"], span=2))
        self.assertEqual(loft.rule_of("b"), Rule())
        self.assertEqual(loft.deeds(), [("rule", "ab", ("11", "00"), 0, None, 2), ("rule", "b", (), 0, None, None)])

    def test_words_none_left_out_and_empty(self):
        for words in (None, [], ()):
            loft = Loft()
            loft.rule("a", words)
            loft.do(("rule", "b", (), 1, 2, 3))
            self.assertEqual(loft.deeds(), [("rule", "a", (), 0, None, None), ("rule", "b", (), 1, 2, 3)])

    def test_words_keep_their_order_in_the_deed_alone(self):
        loft = Loft()
        given = ["11", "000", "01"]
        loft.rule("a", given)
        given.append("0")
        self.assertEqual(loft.deeds()[0][2], ("11", "000", "01"))
        self.assertEqual(loft.rule_of("a").words(), ["000", "01", "11"])

    def test_names(self):
        loft = Loft()
        for name in NO_NAMES:
            self.unchanged(BadName, loft, loft.rule, name, ["2"], 9, 9, 9)
            self.refuses(BadName, loft.table, name, "no", 9, 9, 9)
            self.refuses(BadName, loft.line, name, "no")
        for name in ("a", "z", "abcdefgh", "zzzzzzzz", "rule"):
            loft.rule(name)
        self.assertEqual(loft.rules(), ["a", "abcdefgh", "rule", "z", "zzzzzzzz"])

    def test_one_name_for_a_rule_a_table_and_a_line(self):
        loft = Loft()
        loft.rule("a")
        loft.table("a", "a", 1, 1, 1)
        loft.line("a", "a")
        self.assertEqual((loft.rules(), loft.tables(), loft.lines()), (["a"], ["a"], ["a"]))
        loft.forget("a")
        self.assertEqual((loft.rules(), loft.tables(), loft.lines()), ([], ["a"], ["a"]))

    def test_eight_rules_and_one_more(self):
        loft = Loft()
        for name in NAMES[:8]:
            loft.rule(name)
        self.unchanged(Full, loft, loft.rule, "i")
        self.refuses(BadName, loft.rule, "I")
        self.refuses(Taken, loft.rule, "a", ["2"], name="a")
        self.refuses(BadRule, loft.rule, "i", ["2"], part="words")
        loft.forget("c")
        loft.rule("i")
        self.assertEqual(len(loft.rules()), 8)

    def test_refusals_of_a_rule_in_their_order(self):
        loft = Loft()
        loft.rule("a")
        self.unchanged(Taken, loft, loft.rule, "a", ["2"], 9, 9, 9, name="a")
        for words, low, high, span, part in ((["2"], 9, 9, 9, "words"), ([""], 0, None, None, "words"),
                                             (["0", "0"], 0, None, None, "words"), (["0" * 6], 0, None, None, "words"),
                                             ([], 4, 9, 9, "low"), ([], -1, None, None, "low"),
                                             (None, 3, 2, 9, "high"), (None, 0, 8, 0, "high"), (None, 0, 0, 0, "high"),
                                             (None, 0, 1, 5, "span"), (None, 0, None, 0, "span")):
            self.unchanged(BadRule, loft, loft.rule, "b", words, low, high, span, part=part)
            self.unchanged(BadRule, loft, loft.do, ("rule", "b", tuple(words or ()), low, high, span), part=part)

    def test_bar_and_free(self):
        loft = Loft()
        loft.rule("a", ["11"])
        self.assertIsNone(loft.bar("a", "00"))
        self.assertEqual(loft.rule_of("a"), Rule(["00", "11"]))
        self.assertIsNone(loft.free("a", "11"))
        self.assertEqual(loft.rule_of("a"), Rule(["00"]))
        self.unchanged(Absent, loft, loft.bar, "b", "2", name="b")
        self.unchanged(Absent, loft, loft.free, "B", "2", name="B")
        for word in ("", "2", "000000", "00", "0 "):
            self.unchanged(BadRule, loft, loft.bar, "a", word, part="words")
        for word in ("", "2", "11", "000000"):
            self.unchanged(BadRule, loft, loft.free, "a", word, part="words")
        for word in ("111", "1111", "11111", "0101", "1010"):
            loft.bar("a", word)
        self.unchanged(BadRule, loft, loft.bar, "a", "10101", part="words")
        self.assertEqual(len(loft.rule_of("a").words()), 6)

    def test_bound(self):
        loft = Loft()
        loft.rule("a", ["11"])
        self.assertIsNone(loft.bound("a", 1, 5, 3))
        self.assertEqual(loft.rule_of("a"), Rule(["11"], 1, 5, 3))
        self.unchanged(Absent, loft, loft.bound, "b", 9, 9, 9, name="b")
        for low, high, span, part in ((4, 0, 0, "low"), (2, 1, 0, "high"), (0, None, 5, "span"), (FAR, 1, 1, "low")):
            self.unchanged(BadRule, loft, loft.bound, "a", low, high, span, part=part)

    def test_forget(self):
        loft = Loft()
        loft.rule("a")
        self.assertIsNone(loft.forget("a"))
        self.assertEqual(loft.rules(), [])
        self.unchanged(Absent, loft, loft.forget, "a", name="a")
        self.unchanged(Absent, loft, loft.rule_of, "a", name="a")


class TableTest(LoftCase):
    def test_made_and_dropped(self):
        loft = Loft()
        loft.rule("a", ["11"])
        self.assertIsNone(loft.table("t", "a", 1, 2))
        loft.table("s", "a", 2, 3, 2)
        self.assertEqual(loft.tables(), ["s", "t"])
        self.assertEqual(loft.table_of("t"), Table(NO_TWO, 1, 2, 8))
        self.assertEqual(loft.table_of("s"), Table(NO_TWO, 2, 3, 2))
        self.assertEqual(loft.deeds()[1:], [("table", "t", "a", 1, 2, 8), ("table", "s", "a", 2, 3, 2)])
        self.assertIsNone(loft.drop("t"))
        self.assertEqual(loft.tables(), ["s"])
        self.unchanged(Absent, loft, loft.drop, "t", name="t")
        self.unchanged(Absent, loft, loft.table_of, "t", name="t")

    def test_it_stays_what_it_was_made(self):
        loft = Loft()
        loft.rule("a", ["11"])
        loft.table("t", "a", 1, 2)
        loft.line("l", "t")
        table = loft.table_of("t")
        for change in (lambda: loft.bar("a", "00"), lambda: loft.bound("a", 1, 1, 1), lambda: loft.forget("a"),
                       lambda: loft.rule("a"), lambda: loft.bar("a", "0")):
            change()
            self.assertEqual(loft.table_of("t"), Table(NO_TWO, 1, 2))
            self.assertEqual(loft.table_of("t").rule(), NO_TWO)
            self.assertEqual(table.rule(), NO_TWO)
            loft.write("l", "01")
        self.assertEqual(loft.tape("l"), Table(NO_TWO, 1, 2).write("01" * 5)[0])

    def test_refusals_in_their_order(self):
        loft = Loft()
        loft.rule("a", ["11"])
        loft.rule("wide", WIDE_RULE.words(), WIDE_RULE.low(), WIDE_RULE.high(), WIDE_RULE.span())
        loft.rule("none", NONE_LASTS[0].words())
        loft.table("t", "a", 1, 2)
        self.unchanged(BadName, loft, loft.table, "T", "no", 9, 9, 99)
        self.unchanged(Taken, loft, loft.table, "t", "no", 9, 9, 99, name="t")
        self.unchanged(Absent, loft, loft.table, "s", "no", 9, 9, 99, name="no")
        for rule in ("a", "wide", "none"):
            for p, q, most, part in ((0, 9, 99, "p"), (1, 9, 99, "q"), (1, 1, 13, "most"), (FAR, 1, 1, "p")):
                self.unchanged(BadPace, loft, loft.table, "s", rule, p, q, most, part=part)
        self.unchanged(TooWide, loft, loft.table, "s", "wide", 3, 1, stands=41)
        self.unchanged(NoTable, loft, loft.table, "s", "a", 1, 1)
        self.unchanged(NoTable, loft, loft.table, "s", "none", 1, 4)
        for name in NAMES[:5]:
            loft.table(name, "a", 1, 2, 1)
        self.unchanged(Full, loft, loft.table, "s", "a", 1, 2)
        self.refuses(NoTable, loft.table, "s", "a", 1, 1)
        self.refuses(TooWide, loft.table, "s", "wide", 1, 2)
        self.refuses(BadPace, loft.table, "s", "a", 0, 1)
        loft.drop("t")
        loft.table("s", "a", 1, 2)
        self.assertEqual(len(loft.tables()), 6)

    def test_held(self):
        loft = small_loft()
        self.unchanged(Held, loft, loft.drop, "plain")
        loft.line("more", "plain")
        loft.burn("one")
        self.unchanged(Held, loft, loft.drop, "plain")
        loft.burn("more")
        self.assertIsNone(loft.drop("plain"))
        self.assertEqual(loft.tables(), ["deep"])


class LineTest(LoftCase):
    def test_begun_and_burnt(self):
        loft = small_loft()
        self.assertEqual(loft.lines(), ["far", "one"])
        told = [question("one") for question in (
            loft.tape, loft.told, loft.pair, loft.late, loft.used, loft.faults, loft.spoilt, loft.read)]
        self.assertEqual(told, ["", "", (0, 0), False, "plain", [], [], []])
        self.assertIsNone(loft.burn("one"))
        self.assertEqual(loft.lines(), ["far"])
        self.unchanged(Absent, loft, loft.burn, "one", name="one")

    def test_refusals_in_their_order(self):
        loft = small_loft()
        self.unchanged(BadName, loft, loft.line, "One", "no")
        self.unchanged(Taken, loft, loft.line, "one", "no", name="one")
        self.unchanged(Absent, loft, loft.line, "a", "no", name="no")
        for name in NAMES[:4]:
            loft.line(name, "plain")
        self.unchanged(Full, loft, loft.line, "e", "plain")
        self.refuses(Absent, loft.line, "e", "no", name="no")
        self.refuses(Taken, loft.line, "a", "plain", name="a")
        loft.burn("far")
        loft.line("e", "plain")
        self.assertEqual(len(loft), 6)

    def test_written_on(self):
        loft = small_loft()
        table = loft.table_of("deep")
        for many, message in enumerate(("1101", "", "00", "111000")):
            self.assertIsNone(loft.write("far", message))
        self.assertEqual((loft.tape("far"), loft.pair("far")), table.write("110100111000"))
        self.assertEqual(loft.told("far"), "110100111000")
        self.assertEqual(loft.faults("far"), [])
        self.assertEqual((loft.tape("one"), loft.told("one"), loft.pair("one")), ("", "", (0, 0)))

    def test_write_refusals_in_their_order(self):
        loft = small_loft()
        self.unchanged(Absent, loft, loft.write, "no", "2", name="no")
        self.unchanged(BadRow, loft, loft.write, "far", "0" * 501 + "2", at=501)
        self.unchanged(BadRow, loft, loft.write, "far", "?", at=0)
        self.unchanged(BadLength, loft, loft.write, "far", "0" * 501, by=2)
        self.unchanged(TooLong, loft, loft.write, "far", "0" * 500)

    def test_just_240_signs(self):
        loft = small_loft()
        self.unchanged(TooLong, loft, loft.write, "one", "0" * 121)
        loft.write("one", "01" * 60)
        self.assertEqual(len(loft.tape("one")), 240)
        self.unchanged(TooLong, loft, loft.write, "one", "0")
        loft.write("one", "")
        loft.cut("one", 1)
        loft.write("one", "0")
        self.unchanged(TooLong, loft, loft.write, "one", "0")
        loft.write("far", "0" * 160)
        self.assertEqual(len(loft.tape("far")), 240)
        self.unchanged(TooLong, loft, loft.write, "far", "00")

    def test_just_240_signs_one_by_one(self):
        loft = Loft()
        loft.rule("a")
        loft.table("t", "a", 1, 1, 1)
        loft.line("l", "t")
        self.unchanged(TooLong, loft, loft.write, "l", "0" * 241)
        loft.write("l", "0" * 239)
        self.unchanged(TooLong, loft, loft.write, "l", "00")
        loft.write("l", "0")
        self.unchanged(TooLong, loft, loft.write, "l", "0")

    def test_turn(self):
        loft = small_loft()
        loft.write("one", "0110")
        self.assertEqual(loft.tape("one"), "00010100")
        self.assertIsNone(loft.turn("one", 0))
        loft.turn("one", 7)
        loft.turn("one", 3)
        self.assertEqual(loft.tape("one"), "10000101")
        self.assertEqual(loft.faults("one"), [0, 3, 7])
        loft.turn("one", 3)
        self.assertEqual((loft.tape("one"), loft.faults("one")), ("10010101", [0, 7]))
        for at in (-1, 8, FAR, -FAR, -8):
            self.unchanged(NoSign, loft, loft.turn, "one", at)
            self.unchanged(Absent, loft, loft.turn, "no", at, name="no")
        loft.wipe("one", 5)
        self.unchanged(NoSign, loft, loft.turn, "one", 5)

    def test_wipe(self):
        loft = small_loft()
        loft.write("one", "0110")
        self.assertIsNone(loft.wipe("one", 0))
        loft.wipe("one", 6, 2)
        self.assertEqual(loft.tape("one"), "?00101??")
        self.assertEqual(loft.faults("one"), [0, 6, 7])
        for at, many in ((-1, 1), (-1, 2), (8, 1), (8, 0), (7, 2), (0, 9), (0, 0), (3, -1), (FAR, 1), (0, FAR), (-FAR, FAR),
                         (9, -1), (-3, 5)):
            self.unchanged(NoSign, loft, loft.wipe, "one", at, many)
            self.unchanged(Absent, loft, loft.wipe, "no", at, many, name="no")
        loft.wipe("one", 0, 8)
        self.assertEqual(loft.tape("one"), "?" * 8)
        self.assertEqual(loft.deeds()[-1], ("wipe", "one", 0, 8))
        self.assertEqual(loft.deeds()[-3], ("wipe", "one", 0, 1))
        self.assertEqual(loft.told("one"), "0110")

    def test_cut(self):
        loft = small_loft()
        loft.write("far", "110100")
        loft.turn("far", 2)
        loft.turn("far", 7)
        pair = loft.pair("far")
        row = loft.tape("far")
        for many in (0, -1, 4, FAR, -FAR):
            self.unchanged(NoSign, loft, loft.cut, "far", many)
            self.unchanged(Absent, loft, loft.cut, "no", many, name="no")
        self.assertIsNone(loft.cut("far", 1))
        self.assertEqual((loft.tape("far"), loft.told("far"), loft.pair("far")), (row[3:], "0100", pair))
        self.assertEqual((loft.late("far"), loft.faults("far")), (True, [4]))
        loft.cut("far", 2)
        self.assertEqual((loft.tape("far"), loft.told("far"), loft.pair("far")), ("", "", pair))
        self.assertIs(loft.late("far"), True)
        self.unchanged(NoSign, loft, loft.cut, "far", 1)
        loft.write("far", "11")
        self.assertEqual((loft.tape("far"), loft.pair("far")), loft.table_of("deep").write("11", pair))
        self.assertIs(loft.late("far"), True)
        self.unchanged(NoSign, small_loft(), small_loft().cut, "one", 1)

    def test_questions_of_a_line_that_there_is_not(self):
        loft = small_loft()
        for question in (loft.tape, loft.told, loft.pair, loft.late, loft.used, loft.faults, loft.spoilt, loft.read):
            for name in ("no", "", "plain", "TWO"):
                self.unchanged(Absent, loft, question, name, name=name)


class ReadTest(LoftCase):
    def test_read(self):
        loft = small_loft()
        loft.write("one", "0110")
        self.assertEqual(loft.read("one"), ["0", "1", "1", "0"])
        loft.wipe("one", 4)
        self.assertEqual(loft.read("one"), ["0", "1", None, "0"])
        self.assertEqual(loft.spoilt("one"), [2])
        loft.turn("one", 3)
        # The memory is one sign, so the last sign of a block spoils the next one too.
        self.assertEqual(loft.faults("one"), [3, 4])
        self.assertEqual(loft.spoilt("one"), [1, 2])
        loft.cut("one", 3)
        self.assertEqual((loft.tape("one"), loft.read("one"), loft.spoilt("one")), ("00", [None], []))

    def test_a_table_that_does_not_slide(self):
        loft = small_loft()
        for message in ("", "00"):
            loft.write("far", message)
            self.unchanged(Endless, loft, loft.read, "far")
            self.unchanged(Endless, loft, loft.spoilt, "far")
        self.assertEqual(loft.faults("far"), [])
        self.refuses(Absent, loft.read, "no", name="no")

    def test_against_the_document_s_words(self):
        chance = random.Random(5)
        rules = [Rule(["11"]), Rule(low=1, high=3), Rule(), Rule(["000", "111"]), Rule(low=1, high=7)]
        for turn in range(80):
            rule = chance.choice(rules)
            p, q = chance.choice([pace for pace in paces(rule, 2) if pace[0] < 3])
            loft = Loft()
            loft.rule("r", rule.words(), rule.low(), rule.high(), rule.span())
            loft.table("t", "r", p, q, 2)
            table = loft.table_of("t")
            if ahead(table) is None:
                continue
            loft.line("l", "t")
            message = "".join(chance.choice("01") for _ in range(p * chance.randrange(1, 15)))
            clean = table.write(message)[0]
            loft.write("l", message)
            row = list(clean)
            for _ in range(chance.randrange(4)):
                at = chance.randrange(len(row))
                if chance.randrange(2) and row[at] != "?":
                    loft.turn("l", at)
                    row[at] = "1" if row[at] == "0" else "0"
                else:
                    loft.wipe("l", at)
                    row[at] = "?"
            gone = chance.randrange(len(row) // q + 1)
            if gone:
                loft.cut("l", gone)
            row, clean = "".join(row)[gone * q:], clean[gone * q:]
            faults = [at for at in range(len(row)) if row[at] != clean[at]]
            back, forth = memory(rule), ahead(table)
            spoilt = []
            for block in range(len(row) // q):
                window = range(block * q - back, (block + 1 + forth) * q)
                if any(at in window for at in faults):
                    spoilt.append(block)
            self.assertEqual((loft.tape("l"), loft.faults("l"), loft.spoilt("l")), (row, faults, spoilt))
            self.assertEqual(loft.read("l"), slide(table, row, gone > 0))
            for block, signs in enumerate(loft.read("l")):
                if signs is not None and block not in spoilt:
                    self.assertEqual(signs, loft.told("l")[block * p:block * p + p])

    def test_blocks_untold_for_another_reason_are_not_spoilt(self):
        loft = Loft()
        loft.rule("gap", low=1, high=3)
        loft.table("t", "gap", 1, 2, 2)
        loft.line("l", "t")
        loft.write("l", "011010")
        self.assertEqual(ahead(loft.table_of("t")), 2)
        self.assertEqual(loft.read("l")[-2:], [None, None])
        self.assertEqual(loft.spoilt("l"), [])
        loft.turn("l", 11)
        self.assertEqual(loft.spoilt("l"), [3, 4, 5])
        loft.turn("l", 11)
        loft.turn("l", 0)
        # The memory is three signs: a fault at 0 reaches the blocks that begin at 0 and 2.
        self.assertEqual(loft.spoilt("l"), [0, 1])


class UndoTest(LoftCase):
    def test_nothing_left(self):
        loft = Loft()
        self.unchanged(NothingLeft, loft, loft.undo)
        self.unchanged(NothingLeft, loft, loft.redo)
        loft.rule("a")
        self.unchanged(NothingLeft, loft, loft.redo)
        self.assertEqual(loft.undo(), ("rule", "a", (), 0, None, None))
        self.unchanged(NothingLeft, loft, loft.undo)
        self.assertEqual(loft.redo(), ("rule", "a", (), 0, None, None))
        self.unchanged(NothingLeft, loft, loft.redo)

    def test_the_order_of_what_is_undone(self):
        loft = small_loft()
        deeds = loft.deeds()
        self.assertEqual(loft.undo(), deeds[-1])
        self.assertEqual(loft.undo(), deeds[-2])
        self.assertEqual(loft.undone(), [deeds[-2], deeds[-1]])
        self.assertEqual(loft.deeds(), deeds[:-2])
        self.assertEqual(loft.redo(), deeds[-2])
        self.assertEqual(loft.undone(), [deeds[-1]])

    def test_behind_a_refused_deed_and_behind_a_new_one(self):
        loft = small_loft()
        loft.undo()
        self.unchanged(Taken, loft, loft.rule, "two")
        self.unchanged(Absent, loft, loft.turn, "no", 0)
        self.assertEqual(loft.undone(), [("line", "far", "deep")])
        loft.rule("new")
        self.assertEqual(loft.undone(), [])
        self.refuses(NothingLeft, loft.redo)
        self.assertEqual(loft.undo(), ("rule", "new", (), 0, None, None))

    def test_each_kind_of_deed_taken_back(self):
        loft = small_loft()
        loft.write("one", "01101")
        for deed in (("rule", "a", ("00",), 1, 2, None), ("bar", "two", "00"), ("free", "two", "11"),
                     ("bound", "gap", 0, None, 4), ("forget", "gap"), ("table", "a", "gap", 1, 2, 3),
                     ("line", "a", "deep"), ("write", "one", "0011"), ("turn", "one", 3), ("wipe", "one", 2, 3),
                     ("cut", "one", 2), ("burn", "one"), ("burn", "far")):
            kept = whole(loft)[2:]
            loft.do(deed)
            behind = whole(loft)[2:]
            self.assertNotEqual(behind, kept, deed)
            self.assertEqual(loft.undo(), deed)
            self.assertEqual(whole(loft)[2:], kept)
            self.assertEqual(loft.redo(), deed)
            self.assertEqual(whole(loft)[2:], behind)
            loft.undo()
        loft.burn("far")
        loft.drop("deep")
        self.assertEqual(loft.undo(), ("drop", "deep"))
        self.assertEqual(loft.tables(), ["deep", "plain"])

    def test_a_hundred_deeds(self):
        loft = small_loft()
        loft.write("one", "01" * 30)
        chance = random.Random(6)
        for _ in range(100):
            loft.turn("one", chance.randrange(120))
        told = [whole(loft)]
        deeds = loft.deeds()
        for many in range(107):
            self.assertEqual(loft.undo(), deeds[106 - many])
            told.append(whole(loft))
        self.assertEqual(loft.deeds(), [])
        self.assertEqual(loft, Loft())
        for many in range(107):
            self.assertEqual(whole(loft), told[107 - many])
            self.assertEqual(loft.redo(), deeds[many])
        self.assertEqual(whole(loft), told[0])

    def test_all_is_as_if_only_what_stands_was_done(self):
        done = 0
        for loft in chance_lofts(60, 160, 7):
            other = redone(loft)
            self.assertEqual(whole(loft)[2:], whole(other)[2:])
            self.assertEqual(loft, other)
            undone = loft.undone()
            for deed in undone:
                self.assertEqual(loft.redo(), deed)
            self.assertEqual(whole(loft), whole(redone(loft)))
            done += len(loft.deeds())
        self.assertGreater(done, 1000)

    def test_refused_by_chance(self):
        chance = random.Random(8)
        for loft in chance_lofts(20, 30, 9):
            for _ in range(40):
                kept, deed = whole(loft), chance_deed(chance)
                try:
                    loft.do(deed)
                except (PulseError, LoftError):
                    self.assertEqual(whole(loft), kept)
                else:
                    self.assertEqual(loft.deeds(), kept[0] + [deed])
                    loft.undo()
                    self.assertEqual(whole(loft)[2:], kept[2:])
                    self.assertEqual(loft.undone(), [deed])

    def test_twin(self):
        loft = small_loft()
        loft.write("one", "01")
        loft.undo()
        loft.undo()
        twin = loft.twin()
        self.assertIsInstance(twin, Loft)
        self.assertEqual(whole(twin), whole(loft))
        self.assertEqual(twin.undone(), [("line", "far", "deep"), ("write", "one", "01")])
        kept = whole(loft)
        self.assertEqual(twin.redo(), ("line", "far", "deep"))
        twin.burn("one")
        self.assertEqual(whole(loft), kept)
        self.assertNotEqual(twin, loft)
        loft.redo()
        loft.redo()
        self.assertEqual(loft.told("one"), "01")
        self.assertEqual(twin.lines(), ["far"])
        twin.undo()
        self.assertEqual(twin.told("one"), "")


class WholeTest(LoftCase):
    def test_equal(self):
        self.assertTrue(Loft() == Loft())
        self.assertTrue(small_loft() == small_loft())
        self.assertFalse(small_loft() != small_loft())
        one, other = small_loft(), small_loft()
        one.rule("a")
        self.assertFalse(one == other)
        one.undo()
        self.assertTrue(one == other)
        one, other = Loft(), Loft()
        one.rule("a")
        one.rule("b")
        other.rule("b")
        other.rule("a")
        self.assertTrue(one != other)
        one, other = Loft(), Loft()
        one.rule("a", ["0", "11"])
        other.rule("a", ["11", "0"])
        self.assertEqual(one.rule_of("a"), other.rule_of("a"))
        self.assertTrue(one != other)
        for thing in (None, 0, [], (), "", Loft().deeds(), Rule()):
            self.assertFalse(Loft() == thing)
            self.assertTrue(Loft() != thing)

    def test_the_same_things_by_other_deeds_are_not_equal(self):
        one, other = Loft(), Loft()
        one.rule("a", ["0"])
        other.rule("a")
        other.bar("a", "0")
        self.assertEqual(one.rule_of("a"), other.rule_of("a"))
        self.assertFalse(one == other)

    def test_len_and_repr(self):
        loft = Loft()
        self.assertEqual(repr(loft), "Loft(0 rules, 0 tables, 0 lines)")
        self.assertFalse(loft)
        loft.rule("a")
        loft.rule("b")
        loft.table("t", "a", 1, 1)
        self.assertEqual(repr(loft), "Loft(2 rules, 1 tables, 0 lines)")
        self.assertEqual(len(loft), 0)
        self.assertFalse(loft)
        loft.line("l", "t")
        self.assertEqual((len(loft), repr(loft)), (1, "Loft(2 rules, 1 tables, 1 lines)"))
        self.assertTrue(loft)

    def test_keywords_and_defaults(self):
        loft = Loft()
        loft.rule(name="a", words=["11"], low=0, high=7, span=None)
        loft.bar(name="a", word="101")
        loft.free(name="a", word="101")
        loft.bound(name="a", low=0, high=None, span=None)
        loft.table(name="t", rule="a", p=1, q=2, most=8)
        loft.line(name="l", table="t")
        loft.write(name="l", message="0101")
        loft.turn(name="l", at=0)
        loft.wipe(name="l", at=1, many=1)
        loft.wipe(name="l", at=2)
        loft.cut(name="l", many=1)
        loft.do(deed=("burn", "l"))
        loft.undo()
        for question in (loft.tape, loft.told, loft.pair, loft.late, loft.used, loft.faults, loft.spoilt, loft.read):
            question(name="l")
        self.assertEqual(loft.rule_of(name="a"), NO_TWO)
        self.assertEqual(loft.table_of(name="t"), Table(NO_TWO, 1, 2))
        loft.burn(name="l")
        loft.drop(name="t")
        loft.forget(name="a")
        self.assertEqual([deed[0] for deed in loft.deeds()], [
            "rule", "bar", "free", "bound", "table", "line", "write", "turn", "wipe", "wipe", "cut", "burn", "drop",
            "forget"])
        self.assertEqual(redone(loft), loft)

    def test_new_lists(self):
        loft = small_loft()
        loft.write("one", "0110")
        loft.turn("one", 0)
        loft.burn("far")
        loft.undo()
        kept = whole(loft)
        for told in (loft.deeds(), loft.undone(), loft.rules(), loft.tables(), loft.lines(), loft.faults("one"),
                     loft.spoilt("one"), loft.read("one")):
            self.assertIsInstance(told, list)
            self.assertGreater(len(told), 0)
            told.clear()
        self.assertEqual(whole(loft), kept)
        for told in (loft.deeds()[0], loft.deeds()[0][2], loft.undone()[0], loft.pair("one")):
            self.assertIsInstance(told, tuple)

    def test_lofts_have_nothing_to_do_with_one_another(self):
        one, other = Loft(), Loft()
        one.rule("a")
        self.assertEqual(other.rules(), [])
        self.assertEqual(asked(other.rule_of, "a"), Absent)
        self.assertEqual(web(one.rule_of("a")), [(0, 0)])


if __name__ == "__main__":
    unittest.main()

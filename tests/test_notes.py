"""[26], and the interface's section on notes."""

import unittest

from cases import RefusalCase
from loft_samples import chance_lofts, small_loft, whole
from pulsewright.errors import BadText
from pulsewright.loft import Loft
from pulsewright.notes import deed_text, page, read_deed, read_page, read_rule, rule_text
from pulsewright.rules import Rule
from samples import JUST_FORTY, NONE_LASTS, SMALL, WIDE_RULE, chance_rules

RULES = [
    (Rule(), "- 0 - -"), (Rule(["11", "00"], span=2), "00+11 0 - 2"), (Rule(low=1, high=7), "- 1 7 -"),
    (Rule(["1", "0", "01", "00"], 3, 3, 4), "0+00+01+1 3 3 4"),
]
NO_RULES = [
    "", " ", "-", "- 0 -", "- 0 - - -", "- 0 - - ", " - 0 - -", "-  0 - -", "- - - -", "- 00 - -", "- 01 - -", "- 0 01 -",
    "- 0 - 0", "- 0 0 -", "- 4 - -", "- 3 2 -", "- 0 8 -", "- 0 - 5", "- -1 - -", "- +1 - -", "- 0 - -\n", "\n- 0 - -",
    "11+00 0 - -", "00+00 0 - -", "00+11+ 0 - -", "+00 0 - -", "00++11 0 - -", "00 11 0 - -", "000000 0 - -", "2 0 - -",
    "0+-  0 - -", "00+- 0 - -", "0+00+000+0000+00000+01+1 0 - -", "- 0x0 - -", "- 1000000 - -", "- 0 - --", "-- 0 - -",
    "- 0 None -", "00, 11 0 - -", "- 0.0 - -", "Rule 0 - -", "00+11\n 0 - 2", "- 0\n - -", "- 0 9999999 -",
]
DEEDS = [
    (("rule", "ab", (), 0, None, None), "rule ab - 0 - -"),
    (("rule", "ab", ("11", "00"), 1, 2, 3), "rule ab 11+00 1 2 3"),
    (("rule", "ab", ("0", "0", "1010101"), 999999, 0, 12), "rule ab 0+0+1010101 999999 0 12"),
    (("rule", "A-b!", ("11",) * 9, 0, None, None), "rule A-b! " + "+".join(["11"] * 9) + " 0 - -"),
    (("bar", "a", "11"), "bar a 11"), (("bar", "-", "0" * 40), "bar - " + "0" * 40),
    (("free", "a", "0"), "free a 0"),
    (("bound", "a", 1, None, 3), "bound a 1 - 3"), (("bound", "+", 10, 100, None), "bound + 10 100 -"),
    (("forget", "forget"), "forget forget"),
    (("table", "t", "a", 1, 2, 8), "table t a 1 2 8"), (("table", "-", "-", 0, 0, 999999), "table - - 0 0 999999"),
    (("drop", "t"), "drop t"),
    (("line", "l", "t"), "line l t"), (("line", "a" * 30, "0"), "line " + "a" * 30 + " 0"),
    (("write", "l", "0110"), "write l 0110"), (("write", "l", ""), "write l -"),
    (("turn", "l", 0), "turn l 0"), (("turn", "l", 100000), "turn l 100000"),
    (("wipe", "l", 3, 0), "wipe l 3 0"), (("cut", "l", 12), "cut l 12"),
    (("burn", "l"), "burn l"),
]
NO_DEEDS = [
    "", " ", "\n", "-", "rule", "rule a", "rule a -", "rule a - 0 -", "rule a - 0 - - -", "rule a - - - -",
    "rule a 0+ 0 - -", "rule a +0 0 - -", "rule a 0++1 0 - -", "rule a + 0 - -", "rule a 2 0 - -", "rule a 0+2 0 - -",
    "rule a 0+- 0 - -", "rule a -+0 0 - -", "rule a  0 - -", "rule  - 0 - -", "rule a - 00 - -", "rule a - 0 01 -",
    "rule a - 0 - 1000000", "rule a - 0 - -1", "rule a - 0 - - ", " rule a - 0 - -", "rule  a - 0 - -", "Rule a - 0 - -",
    "rule a - 0 - -\n", "rule a\n - 0 - -", "rule\na - 0 - -", "rule a () 0 - -", "rule a - 0 None -",
    "bar a", "bar a -", "bar a ", "bar a 2", "bar a 0+1", "bar a 0 0", "bar  0", "bar a 0\n", "bar 0",
    "free a -", "free a", "free a x", "free a 0 ", "bound a", "bound a 1 2", "bound a - - -", "bound a 1 2 3 4",
    "bound a 1 02 3", "forget", "forget ", "forget  ", "forget a b", "forget a\n", "forget a ", "forget\na",
    "table t a 1 2", "table t a 1 2 -", "table t a - 2 8", "table t a 1 2 8 8", "table t a 1 2 0000008", "table t  1 2 8",
    "table t a 1 2 1234567", "drop", "drop a b", "line l", "line l ", "line l t t", "line  t", "line l\n t",
    "write l", "write l ", "write l 2", "write l 0?", "write l --", "write l 0 1", "write l 0-", "write l 01\n",
    "write  01", "turn l", "turn l -", "turn l -1", "turn l +1", "turn l 01", "turn l 0 0", "turn l 1000000", "turn l 1.",
    "turn l 0x1", "turn l x", "turn l 1\n", "wipe l 1", "wipe l 1 -", "wipe l 1 1 1", "wipe l 1  1", "wipe l 1 00",
    "cut l", "cut l -", "cut l 1 1", "burn", "burn l l", "undo", "redo", "done", "web a", "read a", "cut l 1_0", "cut l 1,0",
]


class RuleTextTest(RefusalCase):
    def test_known(self):
        for rule, text in RULES:
            self.assertEqual(rule_text(rule), text)
            self.assertEqual(read_rule(text), rule)
            self.assertIsInstance(read_rule(text), Rule)

    def test_there_and_back(self):
        for rule in SMALL + JUST_FORTY + NONE_LASTS + [WIDE_RULE] + chance_rules(200, 31):
            text = rule_text(rule)
            self.assertEqual(text, str(rule))
            self.assertEqual(read_rule(text), rule)
            self.assertEqual(rule_text(read_rule(text)), text)

    def test_any_other_text(self):
        for text in NO_RULES:
            with self.subTest(text):
                self.refuses(BadText, read_rule, text, row=0)

    def test_texts_that_are_nearly_a_rule_s(self):
        good = {rule_text(rule) for rule in SMALL}
        for text in sorted(good)[::9]:
            for at in range(len(text) + 1):
                for sign in ("", " ", "+", "-", "0", "2", "\n"):
                    other = text[:at] + sign + text[at + (sign == ""):]
                    try:
                        rule = read_rule(other)
                    except BadText as refused:
                        self.assertEqual(refused.row, 0)
                        self.assertNotIn(other, good)
                    else:
                        self.assertEqual(rule_text(rule), other)


class DeedTextTest(RefusalCase):
    def test_known(self):
        for deed, text in DEEDS:
            self.assertEqual(deed_text(deed), text)
            told = read_deed(text)
            self.assertEqual(told, deed)
            self.assertIsInstance(told, tuple)
            if told[0] == "rule":
                self.assertIsInstance(told[2], tuple)

    def test_any_other_text(self):
        for text in NO_DEEDS:
            with self.subTest(text):
                self.refuses(BadText, read_deed, text, row=0)

    def test_texts_that_are_nearly_a_deed_s(self):
        for deed, text in DEEDS:
            for at in range(len(text) + 1):
                for sign in ("", " ", "+", "-", "0", "2", "x", "\n"):
                    other = text[:at] + sign + text[at + (sign == ""):]
                    try:
                        told = read_deed(other)
                    except BadText as refused:
                        self.assertEqual(refused.row, 0)
                    else:
                        self.assertEqual(deed_text(told), other)

    def test_deeds_of_lofts(self):
        for loft in chance_lofts(20, 80, 32):
            for deed in loft.deeds():
                self.assertEqual(read_deed(deed_text(deed)), deed)

    def test_six_figures_and_seven(self):
        self.assertEqual(read_deed("turn l 999999"), ("turn", "l", 999999))
        self.refuses(BadText, read_deed, "turn l 1000000", row=0)
        self.assertEqual(deed_text(("turn", "l", 1000000)), "turn l 1000000")


class PageTest(RefusalCase):
    def test_known(self):
        loft = Loft()
        self.assertEqual(page(loft), "")
        loft.rule("two", ["11", "0000"])
        loft.table("t", "two", 1, 2)
        loft.line("l", "t")
        loft.write("l", "")
        loft.write("l", "01")
        loft.wipe("l", 0)
        loft.burn("l")
        loft.undo()
        text = "rule two 11+0000 0 - -\ntable t two 1 2 8\nline l t\nwrite l -\nwrite l 01\nwipe l 0 1\n"
        self.assertEqual(page(loft), text)
        told = read_page(text)
        self.assertIsInstance(told, Loft)
        self.assertEqual(told, loft)
        self.assertEqual(told.undone(), [])
        self.assertEqual(loft.undone(), [("burn", "l")])
        self.assertEqual(whole(told)[2:], whole(loft)[2:])

    def test_the_empty_page(self):
        self.assertEqual(read_page(""), Loft())
        self.refuses(BadText, read_page, "\n", row=0)

    def test_there_and_back(self):
        for loft in chance_lofts(40, 100, 33):
            text = page(loft)
            told = read_page(text)
            self.assertEqual(told, loft)
            self.assertEqual(told.deeds(), loft.deeds())
            self.assertEqual(told.undone(), [])
            self.assertEqual(page(told), text)
            told.rule("newest")
            self.assertNotEqual(told, loft)

    def test_refused_pages(self):
        good = page(small_loft())
        lines = good.count("\n")
        for text, row in ((good[:-1], lines - 1), (good + "\n", lines), (good + "x", lines), (good + "burn one", lines),
                          ("\n" + good, 0), (good + "\n" + good, lines), (good + good, lines), (good + "turn one 0\n", lines),
                          (good + "burn one\nburn one\n", lines + 1), (good + "write one 2\n", lines),
                          (good + "undo\n", lines), (" " + good, 0), (good.replace("\n", " \n", 1), 0), ("x", 0),
                          ("x\ny", 0), ("rule a - 0 - -", 0), ("rule a - 0 - -\nrule b - 0 - -", 1),
                          ("rule a - 0 - -\nrule a - 0 - -", 1), ("rule a - 0 - -\n\n", 1), ("rule A - 0 - -\n", 0),
                          ("rule a - 9 - -\n", 0), ("rule a - 0 - -\ntable t a 2 1 8\nx", 1),
                          (good + "drop plain\n", lines), (good + "write one " + "0" * 130 + "\n", lines)):
            self.refuses(BadText, read_page, text, row=row)

    def test_a_page_of_many_deeds(self):
        text = "rule a - 0 - -\ntable t a 1 1 1\nline l t\nwrite l 0000\n" + "turn l 3\n" * 1500
        loft = read_page(text)
        self.assertEqual(len(loft.deeds()), 1504)
        self.assertEqual(loft.faults("l"), [])
        self.assertEqual(page(loft), text)

    def test_keywords(self):
        self.assertEqual(rule_text(rule=Rule()), "- 0 - -")
        self.assertEqual(read_rule(text="- 0 - -"), Rule())
        self.assertEqual(deed_text(deed=("burn", "l")), "burn l")
        self.assertEqual(read_deed(text="burn l"), ("burn", "l"))
        self.assertEqual(page(loft=Loft()), "")
        self.assertEqual(read_page(text=""), Loft())


if __name__ == "__main__":
    unittest.main()

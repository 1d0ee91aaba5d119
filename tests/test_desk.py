"""[27], and the interface's section on the desk."""

import random
import unittest

from loft_samples import asked, chance_deed, chance_lofts, small_loft, whole
from pulsewright.counts import how_many, parting, row_at
from pulsewright.desk import Desk
from pulsewright.errors import BadText, LoftError, PulseError
from pulsewright.loft import Loft
from pulsewright.notes import deed_text, page, read_deed
from pulsewright.webs import web
from pulsewright.weights import least_most, paces
from pulsewright.windows import ahead, memory
from samples import WIDE_RULE

WIDE_TEXT = f"rule wide {WIDE_RULE}"
NONE_TEXT = "rule none 0+1 0 - -"
QUESTIONS = {
    "rule": 1, "web": 1, "many": 2, "row": 3, "parts": 2, "memory": 1, "paces": 1, "pairs": 1, "ahead": 1,
    "weights": 1, "tape": 1, "told": 1, "read": 1, "spoilt": 1,
}
NO_FORMS = [
    "", " ", "  ", "what", "done", "no", "undo ", " undo", "undo 1", "redo a", "Undo", "UNDO", "rule", "rule ", "rule  a",
    "rule a ", " rule a", "rule a b", "rule two 0", "web", "web ", "web two gap", "web two ", "web  two", "many", "many two",
    "many two ", "many two x", "many two -1", "many two 01", "many two -", "many two 1000000", "many two 1 1", "many no x",
    "many no 00", "row two", "row two 1", "row two 1 -", "row two - 1", "row two 1 1 1", "row two 1 01", "row no 01 1",
    "row two 1 -1", "parts two", "parts two ", "parts  two", "parts two gap gap", "memory", "memory two 1", "paces",
    "paces two 8", "pairs", "pairs plain 1", "ahead", "weights", "weights plain plain", "tape", "tape one one", "told",
    "read", "spoilt", "spoilt one 1", "rule a 2 0 - -", "rule a 11+ 0 - -", "bar two", "bar two -", "bar two 2",
    "free two", "bound two 0 -", "bound two - - -", "forget", "table t two 1 2", "table t two 1 2 -", "table t two 1 2 08",
    "drop", "line l", "write one", "write one 2", "write one ?", "write one ", "turn one", "turn one -1", "turn no -1",
    "turn one x", "wipe one 0", "wipe one 0 -", "cut one", "cut one 00", "burn", "faults one", "pair one", "late one",
    "used one", "lines", "rules", "tables", "blur two", "doubt plain", "lots plain 0", "slides plain", "twin", "do burn one",
]


def said(desk, *lines):
    """The answers to several lines."""
    return [desk.say(line) for line in lines]


class DeskTest(unittest.TestCase):
    def test_a_loft_handed_in_is_that_very_loft(self):
        for loft in (Loft(), small_loft()):
            desk = Desk(loft)
            self.assertIs(desk.loft(), loft)
            self.assertEqual(desk.say("rule a - 0 - -"), "done")
            self.assertIn("a", loft.rules())
            loft.rule("b")
            self.assertEqual(desk.say("rule b"), "- 0 - -")
            self.assertIs(Desk(loft=loft).loft(), loft)

    def test_desks_of_their_own(self):
        one, other, third = Desk(), Desk(None), Desk()
        self.assertEqual(one.say("rule a - 0 - -"), "done")
        for desk in (other, third):
            self.assertIsInstance(desk.loft(), Loft)
            self.assertEqual(desk.loft(), Loft())
            self.assertEqual(desk.say("rule a"), "no absent")
        self.assertEqual(one.loft().rules(), ["a"])
        self.assertIs(one.loft(), one.loft())

    def test_a_day(self):
        desk = Desk()
        for line, answer in (
                ("rule two 11 0 - -", "done"), ("rule two", "11 0 - -"), ("web two", "2"), ("many two 4", "8"),
                ("row two 4 5", "1000"), ("row two 0 0", "-"), ("many two 0", "1"), ("rule gap - 1 3 -", "done"),
                ("parts two gap", "0000"), ("parts gap two", "-"), ("memory two", "1"), ("memory gap", "3"),
                ("rule sum - 0 - 3", "done"), ("memory sum", "-"), ("paces two", "1:2 1:3 1:4 2:3 2:4"),
                (NONE_TEXT, "done"), ("web none", "0"), ("paces none", "-"), ("many none 3", "0"),
                ("parts two none", "-"), ("parts none two", "-"), ("memory none", "0"), ("row none 0 0", "no badnumber"),
                ("table plain two 1 2 1", "done"), ("table deep two 2 3 2", "done"), ("pairs plain", "2"),
                ("pairs deep", "3"), ("ahead plain", "0"), ("ahead deep", "-"), ("weights deep", "2 1"),
                ("line one plain", "done"), ("tape one", "-"), ("told one", "-"), ("read one", "-"), ("spoilt one", "-"),
                ("write one 0110", "done"), ("tape one", "00010100"), ("told one", "0110"), ("read one", "0 1 1 0"),
                ("spoilt one", "-"), ("wipe one 3 2", "done"), ("tape one", "000??100"), ("read one", "0 - - 0"),
                ("spoilt one", "1 2"), ("undo", "wipe one 3 2"), ("read one", "0 1 1 0"), ("redo", "wipe one 3 2"),
                ("redo", "no nothingleft"), ("turn one 4", "no nosign"), ("turn one 0", "done"), ("read one", "- - - 0"),
                ("cut one 3", "done"), ("read one", "-"), ("tape one", "00"), ("told one", "0"), ("write one -", "done"),
                ("line far deep", "done"), ("read far", "no endless"), ("spoilt far", "no endless"),
                ("write far 0", "no badlength"), ("undo", "line far deep"), ("undo", "write one -"),
                ("forget two", "done"), ("rule two", "no absent"), ("pairs deep", "3"), ("drop plain", "no held"),
                ("burn one", "done"), ("drop plain", "done"), ("pairs plain", "no absent")):
            self.assertEqual(desk.say(line), answer, line)

    def test_each_refusal_by_its_class_s_name(self):
        desk = Desk(small_loft())
        for line, answer in (
                ("rule A - 0 - -", "badname"), ("rule two - 9 - -", "taken"), ("rule a - 9 - -", "badrule"),
                ("rule a 000000 0 - -", "badrule"), ("rule a 0+0 0 - -", "badrule"), ("bar no 11", "absent"),
                ("bar two 11", "badrule"), ("free two 00", "badrule"), ("free no 00", "absent"),
                ("bound two 4 - -", "badrule"), ("bound no 9 9 9", "absent"), ("forget no", "absent"),
                ("table T no 9 9 9", "badname"), ("table plain no 9 9 9", "taken"), ("table t no 9 9 99", "absent"),
                ("table t two 9 9 99", "badpace"), ("table t two 1 1 8", "notable"), ("drop no", "absent"),
                ("drop plain", "held"), ("line L no", "badname"), ("line one no", "taken"), ("line l no", "absent"),
                ("write no 0", "absent"), ("write far 0", "badlength"), ("write one " + "0" * 121, "toolong"),
                ("turn no 999999", "absent"), ("turn one 0", "nosign"), ("wipe no 0 0", "absent"),
                ("wipe one 0 0", "nosign"), ("cut no 0", "absent"), ("cut one 0", "nosign"), ("burn no", "absent"),
                ("redo", "nothingleft"), ("many two 61", "badcount"), ("many no 61", "absent"),
                ("row two 61 0", "badcount"), ("row two 1 2", "badnumber"), ("row no 61 999999", "absent"),
                ("parts two no", "absent"), ("parts no two", "absent"), ("read far", "endless"),
                ("spoilt far", "endless"), ("read no", "absent")):
            kept = whole(desk.loft())
            self.assertEqual(desk.say(line), "no " + answer, line)
            self.assertEqual(whole(desk.loft()), kept)
        self.assertEqual(Desk().say("undo"), "no nothingleft")

    def test_full_and_too_wide(self):
        desk = Desk()
        self.assertEqual(set(said(desk, *[f"rule {name} - 0 - -" for name in "abcdefg"])), {"done"})
        self.assertEqual(said(desk, WIDE_TEXT, "rule i - 0 - -"), ["done", "no full"])
        self.assertEqual(said(desk, "web wide", "many wide 3", "row wide 3 0", "parts wide a", "parts a wide",
                              "memory wide", "paces wide", "table t wide 1 2 8"), ["no toowide"] * 8)
        self.assertEqual(said(desk, "many wide 61", "row wide 61 0", "table t wide 0 1 1"),
                         ["no badcount", "no badcount", "no badpace"])
        self.assertEqual(desk.say("rule wide"), str(WIDE_RULE))
        self.assertEqual(set(said(desk, *[f"table {name} a 1 1 1" for name in "abcdef"])), {"done"})
        self.assertEqual(desk.say("table g a 1 1 1"), "no full")
        self.assertEqual(set(said(desk, *[f"line {name} a" for name in "abcdef"])), {"done"})
        self.assertEqual(desk.say("line g a"), "no full")

    def test_names_that_there_are_not(self):
        desk = Desk(small_loft())
        for word, things in QUESTIONS.items():
            for name in ("no", "-", "Two", "two+", "0", "999999999", "!"):
                numbers = {"many": " 999999", "row": " 999999 999999", "parts": " two"}.get(word, "")
                self.assertEqual(desk.say(f"{word} {name}{numbers}"), "no absent", word)

    def test_lines_of_no_form(self):
        desk = Desk(small_loft())
        kept = whole(desk.loft())
        for line in NO_FORMS:
            self.assertEqual(desk.say(line), "what", line)
        self.assertEqual(whole(desk.loft()), kept)

    def test_the_count_of_things_of_each_question(self):
        desk = Desk(small_loft())
        for word, things in QUESTIONS.items():
            for many in range(8):
                answer = desk.say(" ".join([word] + ["0"] * many))
                # Names alone may be 0, and a rule is also told, of five things.
                told = many == things or (word == "rule" and many == 5)
                self.assertEqual(answer != "what", told, (word, many))

    def test_paces_with_a_most_of_eight(self):
        desk = Desk()
        said(desk, "rule eight 00011+101 0 6 -", "rule nine 10010 0 3 4")
        # For the one 2:3 is good with 8 and not with 7, for the other one with 9 and not with 8.
        for name, most in (("eight", 8), ("nine", 9)):
            self.assertEqual(least_most(desk.loft().rule_of(name), 2, 3), most)
        self.assertEqual(said(desk, "paces eight", "paces nine"), ["1:2 1:3 1:4 2:3 2:4", "1:2 1:3 1:4 2:4"])

    def test_parted_by_the_row_without_signs(self):
        desk = Desk()
        said(desk, NONE_TEXT, "rule a - 0 - -", "rule b 1 0 - -")
        self.assertEqual(parting(desk.loft().rule_of("a"), desk.loft().rule_of("none")), "")
        self.assertEqual(said(desk, "parts a none", "parts none a", "parts a b", "parts b a", "parts a a"),
                         ["-", "-", "1", "-", "-"])

    def test_deeds_against_the_methods(self):
        chance = random.Random(41)
        seen = set()
        for loft in chance_lofts(25, 40, 42):
            desk = Desk(loft.twin())
            for _ in range(80):
                deed = chance_deed(chance)
                text = deed_text(deed)
                told = asked(loft.do, deed)
                try:
                    answer = "done" if told is None else "no " + told.__name__.lower()
                    self.assertEqual(read_deed(text), deed)
                except BadText:
                    answer = "what"
                    if told is None:
                        loft.undo()
                seen.add(answer)
                self.assertEqual(desk.say(text), answer, text)
            self.assertEqual(page(desk.loft()), page(loft))
            self.assertEqual(whole(desk.loft())[2:], whole(loft)[2:])
        self.assertLessEqual({"done", "what", "no absent", "no badname", "no taken", "no badrule", "no badpace",
                              "no notable", "no held", "no nosign"}, seen)

    def test_undo_and_redo_against_the_methods(self):
        for loft in chance_lofts(15, 60, 43):
            desk = Desk(loft.twin())
            for _ in range(len(loft.undone())):
                self.assertEqual(desk.say("redo"), deed_text(loft.redo()))
            self.assertEqual(desk.say("redo"), "no nothingleft")
            for _ in range(len(loft.deeds())):
                self.assertEqual(desk.say("undo"), deed_text(loft.undo()))
            self.assertEqual(desk.say("undo"), "no nothingleft")
            self.assertEqual(whole(desk.loft()), whole(loft))

    def test_questions_against_the_functions(self):
        for loft in chance_lofts(25, 80, 44):
            kept = whole(loft)
            desk = Desk(loft)

            def same(line, question, *given):
                try:
                    told = question(*given)
                except (PulseError, LoftError) as refused:
                    told = "no " + refused.__class__.__name__.lower()
                if isinstance(told, list):
                    told = " ".join("-" if thing is None else str(thing) for thing in told)
                told = "-" if told is None or told == "" else str(told)
                self.assertEqual(desk.say(line), told, line)

            for name in loft.rules():
                rule = loft.rule_of(name)
                same(f"rule {name}", lambda: rule)
                same(f"web {name}", lambda: len(web(rule)))
                same(f"memory {name}", memory, rule)
                same(f"paces {name}", lambda: [f"{p}:{q}" for p, q in paces(rule, 8)])
                for signs in (0, 1, 5, 60, 61):
                    same(f"many {name} {signs}", how_many, rule, signs)
                    for number in (0, 1, 7, 500):
                        same(f"row {name} {signs} {number}", row_at, rule, signs, number)
                for other in loft.rules():
                    same(f"parts {name} {other}", parting, rule, loft.rule_of(other))
            for name in loft.tables():
                table = loft.table_of(name)
                same(f"pairs {name}", len, table)
                same(f"ahead {name}", ahead, table)
                same(f"weights {name}", table.weights)
            for name in loft.lines():
                for word, question in (("tape", loft.tape), ("told", loft.told), ("read", loft.read),
                                       ("spoilt", loft.spoilt)):
                    same(f"{word} {name}", question, name)
            self.assertEqual(whole(loft), kept)

    def test_many_rows_are_told_by_all_their_figures(self):
        desk = Desk()
        said(desk, "rule a - 0 - -")
        self.assertEqual(desk.say(line="many a 60"), str(2 ** 60))


if __name__ == "__main__":
    unittest.main()

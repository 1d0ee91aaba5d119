"""The interface: each name with its arguments and defaults, and [1] over the whole program."""

import importlib
import inspect
import unittest

from loft_samples import small_loft, whole
from pulsewright.desk import Desk
from pulsewright.loft import Loft
from pulsewright.notes import page, read_page
from pulsewright.reader import Reader
from pulsewright.rules import Rule
from pulsewright.tables import Table
from pulsewright.webs import web
from pulsewright.weights import lowerings, paces, steps, weights
from pulsewright.windows import blur, doubt, slide

FUNCTIONS = {
    "rows": ["total(row)", "swing(row)", "gaps(row)", "idle(row)", "holds(row, piece)"],
    "webs": ["web(rule)", "lasting(rule, row)", "stand_of(rule, row)", "first_to(rule, stand)"],
    "counts": ["how_many(rule, signs)", "row_at(rule, signs, number)", "number_of(rule, row)", "parting(one, other)",
               "alike(one, other)"],
    "weights": ["steps(rule, q)", "weights(rule, p, q, most=8)", "bears(rule, q, given)", "fit(rule, p, q, given)",
                "lowerings(rule, p, q, most=8)", "left_by(rule, p, q, most, steps_down)", "least_most(rule, p, q)",
                "paces(rule, most=8)"],
    "windows": ["memory(rule)", "blur(rule)", "ahead(table)", "doubt(table)", "slides(table)",
                "slide(table, row, late=False)"],
    "notes": ["rule_text(rule)", "read_rule(text)", "deed_text(deed)", "read_deed(text)", "page(loft)",
              "read_page(text)"],
}
CLASSES = {
    ("rules", "Rule"): [
        "__init__(self, words=None, low=0, high=None, span=None)", "words(self)", "low(self)", "high(self)", "span(self)",
        "lets(self, row)", "fault(self, row)", "barring(self, word)", "freeing(self, word)",
        "bounded(self, low, high, span)", "joined(self, other)"],
    ("tables", "Table"): [
        "__init__(self, rule, p, q, most=8)", "rule(self)", "pace(self)", "weights(self)", "pairs(self)",
        "lots(self, stand)", "step(self, pair, signs)", "write(self, message, pair=None)", "read(self, row, pair)",
        "__len__(self)"],
    ("reader", "Reader"): [
        "__init__(self, table)", "feed(self, piece)", "choices(self)", "sure(self)", "fed(self)", "ended(self, pair)",
        "twin(self)"],
    ("loft", "Loft"): [
        "__init__(self)", "rule(self, name, words=None, low=0, high=None, span=None)", "bar(self, name, word)",
        "free(self, name, word)", "bound(self, name, low, high, span)", "forget(self, name)",
        "table(self, name, rule, p, q, most=8)", "drop(self, name)", "line(self, name, table)",
        "write(self, name, message)", "turn(self, name, at)", "wipe(self, name, at, many=1)", "cut(self, name, many)",
        "burn(self, name)", "do(self, deed)", "undo(self)", "redo(self)", "deeds(self)", "undone(self)", "twin(self)",
        "rules(self)", "tables(self)", "lines(self)", "rule_of(self, name)", "table_of(self, name)", "tape(self, name)",
        "told(self, name)", "pair(self, name)", "late(self, name)", "used(self, name)", "faults(self, name)",
        "spoilt(self, name)", "read(self, name)", "__len__(self)", "__repr__(self)"],
    ("desk", "Desk"): ["__init__(self, loft=None)", "loft(self)", "say(self, line)"],
}


def module(name):
    return importlib.import_module(f"pulsewright.{name}")


class ListedTest(unittest.TestCase):
    def check(self, owner, listed):
        for text in listed:
            name = text.split("(")[0]
            self.assertIn(name, vars(owner))
            self.assertEqual(name + str(inspect.signature(vars(owner)[name])), text)

    def test_functions(self):
        for name, listed in FUNCTIONS.items():
            self.check(module(name), listed)

    def test_classes(self):
        for (name, owner), listed in CLASSES.items():
            self.check(getattr(module(name), owner), listed)


class ApartTest(unittest.TestCase):
    def test_what_is_handed_in_is_not_changed(self):
        words, given, down = ["11", "00"], [3, 2], [(1, 6), (1, 5)]
        rule = Rule(words)
        module("weights").bears(Rule(["11"]), 2, given)
        module("weights").fit(Rule(["11"]), 1, 2, given)
        module("weights").left_by(Rule(["11"]), 2, 3, 8, down)
        loft = Loft()
        loft.rule("a", words)
        self.assertEqual((words, given, down), (["11", "00"], [3, 2], [(1, 6), (1, 5)]))
        words.clear()
        self.assertEqual((rule.words(), loft.rule_of("a").words()), (["00", "11"], ["00", "11"]))

    def test_lists_within_lists_are_new_too(self):
        rule = Rule(["11"])
        told = steps(rule, 2)
        told[0].clear()
        self.assertEqual(len(steps(rule, 2)[0]), 3)
        for asked in (lambda: web(rule), lambda: weights(rule, 1, 2), lambda: lowerings(rule, 2, 3),
                      lambda: paces(rule), rule.words):
            first = asked()
            kept = list(first)
            first.append(None)
            self.assertEqual(asked(), kept)

    def test_questions_of_all_parts_change_nothing(self):
        loft = small_loft()
        loft.write("one", "0110")
        loft.wipe("one", 2)
        kept = whole(loft)
        table = loft.table_of("plain")
        reader = Reader(table)
        reader.feed("0001")
        table.read("0001", table.write("01")[1])
        blur(loft.rule_of("gap")), doubt(loft.table_of("deep")), slide(table, "0001", True)
        Desk(loft).say("read one")
        read_page(page(loft)).burn("one")
        loft.twin().burn("one")
        self.assertEqual(whole(loft), kept)

    def test_a_table_outlives_what_becomes_of_its_rule(self):
        rule = Rule(["11"])
        table = Table(rule, 1, 2)
        loft = Loft()
        loft.rule("a", ["11"])
        loft.table("t", "a", 1, 2)
        loft.line("l", "t")
        loft.forget("a")
        loft.rule("a", ["0"])
        loft.write("l", "0110")
        self.assertEqual((loft.tape("l"), loft.pair("l")), table.write("0110"))
        self.assertEqual(loft.table_of("t"), table)
        self.assertEqual(loft.table_of("t").rule(), rule)


if __name__ == "__main__":
    unittest.main()

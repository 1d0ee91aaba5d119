"""[4], what [23] and [26] say of rules, and the interface's section on rules."""

import itertools
import unittest

from oracle import all_rows, slow_fault, slow_lets
from pulsewright.errors import BadRow, BadRule
from pulsewright.rules import Rule

FAR = 10 ** 29
SIX = ["0", "01", "010", "0101", "01010", "11111"]
ROWS = list(all_rows(7))
BOUNDS = list(itertools.product((0, 1, 2), (None, 1, 2, 3), (None, 1, 2, 3)))
WORDS = [[], ["11"], ["0"], ["1", "0"], ["010", "11"], ["10101", "0000", "0110"], ["111", "11"]]
PARTS = [(words, low, high, span) for words in WORDS for low, high, span in BOUNDS
         if high is None or high >= low]


def parts(rule):
    return (rule.words(), rule.low(), rule.high(), rule.span())


class RuleCase(unittest.TestCase):
    def refuses(self, part, asked, *given, **named):
        with self.assertRaises(BadRule) as caught:
            asked(*given, **named)
        self.assertEqual(caught.exception.part, part)


class MadeTest(RuleCase):
    def test_left_out(self):
        self.assertEqual(parts(Rule()), ([], 0, None, None))
        self.assertEqual(parts(Rule(["11"])), (["11"], 0, None, None))
        self.assertEqual(parts(Rule(None, 1)), ([], 1, None, None))
        self.assertEqual(parts(Rule(["0"], 1, 2)), (["0"], 1, 2, None))

    def test_by_place_and_by_name(self):
        self.assertEqual(parts(Rule(["11", "00"], 1, 2, 3)), (["00", "11"], 1, 2, 3))
        named = Rule(span=3, high=2, low=1, words=["11", "00"])
        self.assertEqual(parts(named), (["00", "11"], 1, 2, 3))
        self.assertEqual(parts(Rule(span=4)), ([], 0, None, 4))
        self.assertEqual(parts(Rule(["1"], high=7)), (["1"], 0, 7, None))

    def test_no_words(self):
        self.assertEqual(Rule(None).words(), [])
        self.assertEqual(Rule([]).words(), [])

    def test_words_rise_as_texts(self):
        self.assertEqual(Rule(["11", "1", "0111", "10", "01"]).words(), ["01", "0111", "1", "10", "11"])

    def test_words_of_one_to_five_signs(self):
        for word in ("0", "1", "01", "10101", "00000", "11111"):
            self.assertEqual(Rule([word]).words(), [word])
        for word in ("", "000000", "101010", "1" * 300):
            self.refuses("words", Rule, [word])
            self.refuses("words", Rule, ["01", word])

    def test_words_are_rows(self):
        for word in ("2", "x1", "0x1", "01x", "?", " ", "0 ", "0\n", "-", "0+1", "a" * 20000):
            self.refuses("words", Rule, [word])
            self.refuses("words", Rule, ["01", word, "11"])

    def test_words_are_unlike(self):
        self.refuses("words", Rule, ["01", "01"])
        self.refuses("words", Rule, ["01", "1", "01"])

    def test_six_words_and_no_more(self):
        self.assertEqual(Rule(SIX).words(), SIX)
        self.assertEqual(Rule(SIX[::-1]).words(), SIX)
        self.refuses("words", Rule, SIX + ["1"])
        self.refuses("words", Rule, SIX + ["0"])
        self.refuses("words", Rule, ["01"] * 600)

    def test_low(self):
        for low in range(4):
            self.assertEqual(Rule(low=low).low(), low)
        for low in (-1, 4, 5, -FAR, FAR):
            self.refuses("low", Rule, low=low)
            self.refuses("low", Rule, None, low)

    def test_high(self):
        self.assertIs(Rule(high=None).high(), None)
        for high in range(1, 8):
            self.assertEqual(Rule(high=high).high(), high)
        for high in (0, 8, 9, -1, -FAR, FAR):
            self.refuses("high", Rule, high=high)
            self.refuses("high", Rule, low=3, high=high)

    def test_high_is_not_below_low(self):
        for low in range(4):
            for high in range(1, 8):
                if high < low:
                    self.refuses("high", Rule, low=low, high=high)
                else:
                    self.assertEqual(parts(Rule(None, low, high)), ([], low, high, None))

    def test_span(self):
        self.assertIs(Rule(span=None).span(), None)
        for span in range(1, 5):
            self.assertEqual(Rule(span=span).span(), span)
        for span in (0, 5, 6, -1, -FAR, FAR):
            self.refuses("span", Rule, span=span)

    def test_the_part_named_first_is_told(self):
        self.refuses("words", Rule, ["2"], -1, 0, 0)
        self.refuses("words", Rule, ["0", "0"], 0, None, 5)
        self.refuses("low", Rule, ["0"], 4, 3, 0)
        self.refuses("low", Rule, None, -1, 8, None)
        self.refuses("low", Rule, span=9, low=9)
        self.refuses("high", Rule, [], 2, 1, 5)
        self.refuses("high", Rule, None, 0, 0, 0)

    def test_the_words_handed_in_are_neither_changed_nor_kept(self):
        given = ["11", "00"]
        rule = Rule(given)
        self.assertEqual(given, ["11", "00"])
        given[0] = "0"
        given.append("1")
        self.assertEqual(rule.words(), ["00", "11"])
        self.assertIs(rule.lets("11"), False)
        refused = ["11", "00", "11"]
        self.refuses("words", Rule, refused)
        self.assertEqual(refused, ["11", "00", "11"])

    def test_told_words_are_a_new_list(self):
        rule = Rule(["11", "00"])
        told = rule.words()
        told.append("010")
        told[0] = "1"
        self.assertEqual(rule.words(), ["00", "11"])
        self.assertIs(rule.lets("010"), True)
        self.assertIsInstance(rule.words(), list)

    def test_rules_share_nothing(self):
        one, other = Rule(), Rule()
        one.words().append("1")
        self.assertEqual(other.words(), [])
        self.assertEqual(Rule().words(), [])


class LawfulTest(RuleCase):
    def test_against_the_words_of_the_document(self):
        for made in PARTS:
            rule = Rule(*made)
            for row in ROWS:
                self.assertEqual(rule.fault(row), slow_fault(row, *made), (made, row))
                self.assertIs(rule.lets(row), slow_lets(row, *made), (made, row))

    def test_greatest_bounds(self):
        self.assertIs(Rule(low=3).lets("10001"), True)
        self.assertEqual(Rule(low=3).fault("100100"), 4)
        self.assertIs(Rule(high=7).lets("0000000100000001"), True)
        self.assertEqual(Rule(high=7).fault("1000000001"), 9)
        self.assertIs(Rule(span=4).lets("111100001111"), True)
        self.assertEqual(Rule(span=4).fault("1111000001"), 9)

    def test_words(self):
        rule = Rule(["0110", "111"])
        self.assertIs(rule.lets("011"), True)
        self.assertIs(rule.lets("010110"), False)
        self.assertEqual(rule.fault("0101101"), 6)
        self.assertEqual(rule.fault("01111"), 4)
        self.assertIs(rule.fault("1101011"), None)

    def test_low_counts_between_pulses_only(self):
        rule = Rule(low=2)
        for row in ("", "1", "0", "01", "10", "010", "1001", "00100", "010001000"):
            self.assertIs(rule.lets(row), True, row)
        self.assertEqual(rule.fault("0101"), 4)
        self.assertEqual(rule.fault("11"), 2)
        self.assertEqual(rule.fault("1001011"), 6)

    def test_high_counts_ahead_and_behind_too(self):
        rule = Rule(high=2)
        for row in ("", "00", "1001", "00100", "1100"):
            self.assertIs(rule.lets(row), True, row)
        self.assertEqual(rule.fault("0001"), 3)
        self.assertEqual(rule.fault("1000"), 4)
        self.assertEqual(rule.fault("1000100"), 4)

    def test_span(self):
        rule = Rule(span=2)
        for row in ("", "11", "00", "1100", "0110", "110011"):
            self.assertIs(rule.lets(row), True, row)
        self.assertEqual(rule.fault("111"), 3)
        self.assertEqual(rule.fault("11010100011"), 9)
        self.assertEqual(rule.fault("0010001"), 5)

    def test_the_part_that_refuses_first_tells_the_fault(self):
        rule = Rule(["010"], 1, 3, 3)
        self.assertEqual(rule.fault("010" + "0000" + "11"), 3)
        self.assertEqual(rule.fault("11" + "010"), 2)
        self.assertEqual(rule.fault("0000" + "11"), 4)
        self.assertIs(rule.fault("10001"), None)
        self.assertEqual(Rule(["010"], 1, 6, 3).fault("100001"), 5)

    def test_the_empty_row_is_lawful_by_every_rule(self):
        for made in PARTS:
            self.assertIs(Rule(*made).lets(""), True)
            self.assertIs(Rule(*made).fault(""), None)

    def test_bad_rows(self):
        rule = Rule(["0"], 1, 1, 1)
        for text, at in (("x", 0), ("1?", 1), ("0000 ", 4), ("1" * 40 + "2" + "x", 40), ("00\n", 2)):
            for asked in (rule.lets, rule.fault):
                with self.assertRaises(BadRow) as caught:
                    asked(text)
                self.assertEqual(caught.exception.at, at)

    def test_questions_change_nothing(self):
        rule = Rule(["11", "000"], 0, 5, 3)
        first = [rule.fault(row) for row in ROWS]
        self.assertEqual([rule.fault(row) for row in ROWS], first)
        self.assertEqual(parts(rule), (["000", "11"], 0, 5, 3))

    def test_long_rows(self):
        rule = Rule(["111"], 0, 7, 2)
        self.assertIs(rule.lets("01" * 10000), True)
        self.assertEqual(rule.fault("01" * 9998 + "0001"), 19999)

    def test_names(self):
        self.assertIs(Rule(["1"]).lets(row="01"), False)
        self.assertEqual(Rule(["1"]).fault(row="01"), 2)


class ChangedTest(RuleCase):
    def test_barring(self):
        rule = Rule(["11"], 1, 5, 3)
        self.assertEqual(parts(rule.barring("00")), (["00", "11"], 1, 5, 3))
        self.assertEqual(parts(rule.barring(word="1")), (["1", "11"], 1, 5, 3))
        self.assertEqual(parts(Rule().barring("01010")), (["01010"], 0, None, None))
        self.assertEqual(parts(rule), (["11"], 1, 5, 3))
        self.assertIsInstance(rule.barring("00"), Rule)

    def test_barring_refused(self):
        rule = Rule(["11"], 1, 5, 3)
        for word in ("", "000000", "0x", "?", "11", "-"):
            self.refuses("words", rule.barring, word)
        self.assertEqual(parts(rule), (["11"], 1, 5, 3))
        self.assertEqual(Rule(SIX[:5]).barring(SIX[5]).words(), SIX)
        full = Rule(SIX)
        self.refuses("words", full.barring, "1")
        self.refuses("words", full.barring, "0")
        self.assertEqual(full.words(), SIX)

    def test_freeing(self):
        rule = Rule(["11", "00", "010"], 1, 5, 3)
        self.assertEqual(parts(rule.freeing("010")), (["00", "11"], 1, 5, 3))
        self.assertEqual(parts(rule.freeing(word="00")), (["010", "11"], 1, 5, 3))
        self.assertEqual(parts(Rule(["1"]).freeing("1")), ([], 0, None, None))
        self.assertEqual(parts(rule), (["00", "010", "11"], 1, 5, 3))

    def test_freeing_refused(self):
        rule = Rule(["11", "00"], 1, 5, 3)
        for word in ("1", "0", "", "010", "111", "x", "11 ", "1" * 20000):
            self.refuses("words", rule.freeing, word)
        self.refuses("words", Rule().freeing, "1")
        self.assertEqual(parts(rule), (["00", "11"], 1, 5, 3))

    def test_barring_and_freeing_go_back(self):
        rule = Rule(["11"], 0, None, 2)
        self.assertEqual(rule.barring("00").freeing("00"), rule)

    def test_bounded(self):
        rule = Rule(["11", "00"], 1, 5, 3)
        self.assertEqual(parts(rule.bounded(0, None, None)), (["00", "11"], 0, None, None))
        self.assertEqual(parts(rule.bounded(3, 3, 4)), (["00", "11"], 3, 3, 4))
        self.assertEqual(parts(rule.bounded(span=1, high=7, low=2)), (["00", "11"], 2, 7, 1))
        self.assertEqual(parts(rule), (["00", "11"], 1, 5, 3))

    def test_bounded_refused(self):
        rule = Rule(["11"], 1, 5, 3)
        self.refuses("low", rule.bounded, 4, 0, 0)
        self.refuses("low", rule.bounded, -1, None, None)
        self.refuses("high", rule.bounded, 2, 1, 9)
        self.refuses("high", rule.bounded, 0, 8, None)
        self.refuses("high", rule.bounded, 0, 0, None)
        self.refuses("span", rule.bounded, 0, None, 0)
        self.refuses("span", rule.bounded, 3, 3, 5)
        self.assertEqual(parts(rule), (["11"], 1, 5, 3))

    def test_what_is_told_shares_nothing_with_the_rule(self):
        rule = Rule(["11"])
        for made in (rule.barring("00"), rule.bounded(1, 2, 3), rule.joined(rule)):
            made.words().append("0")
            self.assertEqual(rule.words(), ["11"])
            self.assertNotIn("0", made.words())


class JoinedTest(RuleCase):
    def test_parts(self):
        one = Rule(["11", "010"], 0, 5, None)
        other = Rule(["00", "11"], 2, None, 3)
        told = (["00", "010", "11"], 2, 5, 3)
        self.assertEqual(parts(one.joined(other)), told)
        self.assertEqual(parts(other.joined(other=one)), told)
        self.assertEqual(parts(one), (["010", "11"], 0, 5, None))
        self.assertEqual(parts(other), (["00", "11"], 2, None, 3))

    def test_the_narrower_bounds(self):
        self.assertEqual(parts(Rule(None, 1, 6, 4).joined(Rule(None, 0, 3, 2))), ([], 1, 3, 2))
        self.assertEqual(parts(Rule(None, 1, 3, 2).joined(Rule(None, 3, 6, 4))), ([], 3, 3, 2))
        self.assertEqual(parts(Rule().joined(Rule())), ([], 0, None, None))

    def test_with_itself(self):
        rule = Rule(SIX, 1, 2, 3)
        self.assertEqual(rule.joined(rule), rule)

    def test_refused(self):
        self.assertEqual(Rule(SIX[:3]).joined(Rule(SIX[2:])).words(), SIX)
        self.refuses("words", Rule(SIX).joined, Rule(["1"]))
        self.refuses("words", Rule(SIX[:4]).joined, Rule(["1", "10", "100"]))
        self.refuses("high", Rule(low=3).joined, Rule(high=2))
        self.refuses("high", Rule(high=1).joined, Rule(low=2))
        self.refuses("words", Rule(SIX, low=3).joined, Rule(["1"], high=2))
        self.assertEqual(parts(Rule(low=2).joined(Rule(high=2))), ([], 2, 2, None))

    def test_just_the_rows_that_are_lawful_by_both(self):
        rows = list(all_rows(6))
        for one, other in itertools.product(PARTS[::9], PARTS[::7]):
            first, second = Rule(*one), Rule(*other)
            lows, highs = (one[1], other[1]), [high for high in (one[2], other[2]) if high]
            if highs and min(highs) < max(lows):
                self.refuses("high", first.joined, second)
                continue
            both = first.joined(second)
            for row in rows:
                self.assertIs(both.lets(row), first.lets(row) and second.lets(row), (one, other, row))


class AlwaysEqual:
    def __eq__(self, other):
        return True


class ShownTest(RuleCase):
    def test_like_rules(self):
        for made in PARTS:
            self.assertTrue(Rule(*made) == Rule(*made))
            self.assertFalse(Rule(*made) != Rule(*made))
        self.assertEqual(Rule(["11", "00", "1"]), Rule(["1", "11", "00"]))
        self.assertEqual(Rule(None), Rule([]))

    def test_unlike_rules(self):
        rule = Rule(["11"], 1, 3, 2)
        others = [Rule(["1"], 1, 3, 2), Rule(["11", "0"], 1, 3, 2), Rule([], 1, 3, 2),
                  Rule(["11"], 0, 3, 2), Rule(["11"], 1, 4, 2), Rule(["11"], 1, None, 2),
                  Rule(["11"], 1, 3, 1), Rule(["11"], 1, 3, None)]
        for other in others:
            self.assertFalse(rule == other)
            self.assertFalse(other == rule)
            self.assertTrue(rule != other)

    def test_rules_of_the_same_rows_are_unlike_where_their_parts_are(self):
        self.assertNotEqual(Rule(["11"]), Rule(["11", "111"]))
        self.assertNotEqual(Rule(["11"]), Rule(low=1))

    def test_other_things(self):
        rule = Rule(["11"], 1, 3, 2)
        for other in (None, 0, "", str(rule), repr(rule), ["11"], (["11"], 1, 3, 2), {}, object(),
                      AlwaysEqual()):
            self.assertFalse(rule == other)
            self.assertTrue(rule != other)
        self.assertFalse("11 1 3 2" == rule)

    def test_str(self):
        self.assertEqual(str(Rule()), "- 0 - -")
        self.assertEqual(str(Rule(["11", "00"], 0, None, 2)), "00+11 0 - 2")
        self.assertEqual(str(Rule(["1"], 3, 7, 4)), "1 3 7 4")
        self.assertEqual(str(Rule(["10", "1", "0111"], 1, 2)), "0111+1+10 1 2 -")
        self.assertEqual(str(Rule(SIX)), "0+01+010+0101+01010+11111 0 - -")

    def test_repr(self):
        self.assertEqual(repr(Rule(["11", "00"], span=2)), "Rule(['00', '11'], low=0, high=None, span=2)")
        self.assertEqual(repr(Rule()), "Rule([], low=0, high=None, span=None)")
        self.assertEqual(repr(Rule(["1"], 3, 7, 4)), "Rule(['1'], low=3, high=7, span=4)")

    def test_repr_makes_the_rule_again(self):
        for made in PARTS:
            self.assertEqual(eval(repr(Rule(*made)), {"Rule": Rule}), Rule(*made))


if __name__ == "__main__":
    unittest.main()

"""[8] and [9], and the interface's section on counts."""

import unittest

from oracle import SlowRows, all_rows
from pulsewright.counts import alike, how_many, number_of, parting, row_at
from pulsewright.errors import BadCount, BadNumber, BadRow, TooWide, Unlawful
from pulsewright.rules import Rule
from pulsewright.webs import lasting, web
from samples import (
    FREE, GAPS, JUST_FORTY, NO_TWO, NONE_LASTS, SMALL, SWINGING, WIDE, WIDE_RULE, WIDER_RULE, chance_rules)

FAR = 10 ** 29
BAD_COUNTS = (-1, 61, 62, -60, FAR, -FAR)
SAMPLE = SMALL[::9] + JUST_FORTY[:1]


class CountCase(unittest.TestCase):
    def refuses(self, kind, asked, *given):
        with self.assertRaises(kind) as caught:
            asked(*given)
        return caught.exception

    def too_wide(self, stands, asked, *given):
        self.assertEqual(self.refuses(TooWide, asked, *given).stands, stands)


class HowManyTest(CountCase):
    def test_known(self):
        self.assertEqual([how_many(FREE, signs) for signs in (0, 1, 10, 60)], [1, 2, 1024, 1 << 60])
        self.assertEqual([how_many(NO_TWO, signs) for signs in range(7)], [1, 2, 3, 5, 8, 13, 21])
        self.assertEqual(how_many(NO_TWO, 60), 4052739537881)
        self.assertEqual([how_many(SWINGING, signs) for signs in (0, 1, 2, 59, 60)], [1, 2, 2, 2, 2])

    def test_rows_that_die_are_not_counted(self):
        self.assertEqual([how_many(Rule(["00", "01"]), signs) for signs in (0, 1, 2, 60)], [1, 1, 1, 1])

    def test_none_of_any_count_where_the_web_is_empty(self):
        for rule in NONE_LASTS:
            for signs in (0, 1, 2, 60):
                self.assertEqual(how_many(rule, signs), 0)

    def test_bad_counts(self):
        for rule in (FREE, NONE_LASTS[0], WIDE_RULE):
            for signs in BAD_COUNTS:
                self.refuses(BadCount, how_many, rule, signs)

    def test_too_wide(self):
        for rule, stands in WIDE:
            self.too_wide(stands, how_many, rule, 0)
            self.too_wide(stands, how_many, rule, 60)
        self.assertEqual(how_many(JUST_FORTY[0], 0), 1)


class NumberTest(CountCase):
    def test_against_rows_gone_through_one_by_one(self):
        for rule in SAMPLE:
            slow = SlowRows(rule)
            for signs in range(7):
                rows = slow.rows(signs)
                with self.subTest(rule=repr(rule), signs=signs):
                    self.assertEqual(how_many(rule, signs), len(rows))
                    self.assertEqual([row_at(rule, signs, number) for number in range(len(rows))], rows)
                    self.assertEqual([number_of(rule, row) for row in rows], list(range(len(rows))))

    def test_first_and_last_numbers(self):
        for rule in SAMPLE:
            for signs in (0, 1, 59, 60):
                many = how_many(rule, signs)
                for number in (0, many - 1, many // 2) if many else ():
                    row = row_at(rule, signs, number)
                    self.assertEqual(len(row), signs)
                    self.assertIs(lasting(rule, row), True)
                    self.assertEqual(number_of(rule, row), number)
                for number in (-1, many, many + 1, -many - 1, FAR, -FAR):
                    self.refuses(BadNumber, row_at, rule, signs, number)

    def test_sixty_signs(self):
        self.assertEqual(row_at(FREE, 60, 0), "0" * 60)
        self.assertEqual(row_at(FREE, 60, (1 << 60) - 1), "1" * 60)
        self.assertEqual(number_of(FREE, "1" * 60), (1 << 60) - 1)
        self.assertEqual(row_at(NO_TWO, 60, 4052739537880), "10" * 30)

    def test_the_empty_row(self):
        self.assertEqual(row_at(GAPS, 0, 0), "")
        self.assertEqual(number_of(GAPS, ""), 0)
        self.refuses(BadNumber, row_at, GAPS, 0, 1)

    def test_no_row_has_a_number_where_the_web_is_empty(self):
        for rule in NONE_LASTS:
            for signs in (0, 1, 60):
                for number in (-1, 0, 1):
                    self.refuses(BadNumber, row_at, rule, signs, number)
            self.assertEqual(self.refuses(Unlawful, number_of, rule, "").at, 0)

    def test_bad_count_comes_first_whatever_the_number_is(self):
        for signs in BAD_COUNTS:
            for number in (-1, 0, 5, FAR):
                for rule in (FREE, NONE_LASTS[0], WIDE_RULE):
                    self.refuses(BadCount, row_at, rule, signs, number)

    def test_too_wide_comes_ahead_of_bad_number(self):
        for number in (-1, 0, FAR):
            self.too_wide(41, row_at, WIDE_RULE, 3, number)

    def test_number_of_refuses_in_its_order(self):
        long = "01" * 30 + "0"
        self.assertEqual(self.refuses(BadRow, number_of, WIDE_RULE, long + "x").at, 61)
        self.assertEqual(self.refuses(BadRow, number_of, NO_TWO, "110 ").at, 3)
        for rule in (FREE, NO_TWO, WIDE_RULE, NONE_LASTS[0]):
            self.refuses(BadCount, number_of, rule, long)
            self.refuses(BadCount, number_of, rule, "1" * 20000)
        self.too_wide(41, number_of, WIDE_RULE, "00011")
        self.too_wide(41, number_of, WIDE_RULE, "")
        self.assertEqual(self.refuses(Unlawful, number_of, NO_TWO, "00110").at, 3)
        self.assertEqual(self.refuses(Unlawful, number_of, Rule(["00", "01"]), "110").at, 2)
        self.assertEqual(self.refuses(Unlawful, number_of, NO_TWO, "10" * 29 + "11").at, 59)

    def test_names(self):
        self.assertEqual(how_many(signs=3, rule=NO_TWO), 5)
        self.assertEqual(row_at(number=4, signs=3, rule=NO_TWO), "101")
        self.assertEqual(number_of(row="101", rule=NO_TWO), 4)


class TwoRulesTest(CountCase):
    def test_known(self):
        self.assertEqual(parting(FREE, NO_TWO), "11")
        self.assertIs(parting(NO_TWO, FREE), None)
        self.assertEqual(parting(Rule(high=7), Rule(high=6)), "0" * 7)
        self.assertEqual(parting(Rule(["10101"]), Rule(["01010"])), "01010")
        self.assertEqual(parting(Rule(span=4), Rule(span=3)), "0000")
        self.assertIs(parting(Rule(span=3), Rule(span=4)), None)
        self.assertEqual(parting(Rule(["0"]), Rule(["1"])), "1")

    def test_the_first_row_of_all_parts(self):
        self.assertEqual(parting(FREE, Rule(["111", "1000"])), "111")
        self.assertEqual(parting(FREE, Rule(["110", "101", "111"])), "11")

    def test_rows_that_die_do_not_part(self):
        self.assertIs(parting(Rule(["00", "01"]), Rule(["0"])), None)
        self.assertIs(parting(Rule(["0"]), Rule(["00", "01"])), None)
        self.assertEqual(parting(FREE, Rule(["00", "01"])), "0")

    def test_where_one_has_no_lasting_row(self):
        for rule in NONE_LASTS:
            self.assertEqual(parting(FREE, rule), "")
            self.assertEqual(parting(GAPS, rule), "")
            self.assertIs(parting(rule, FREE), None)
            self.assertIs(parting(rule, NONE_LASTS[0]), None)
            self.assertIs(alike(rule, NONE_LASTS[0]), True)
            self.assertIs(alike(rule, FREE), False)
            self.assertIs(alike(FREE, rule), False)

    def test_against_rows_gone_through_one_by_one(self):
        sample = [(rule, SlowRows(rule)) for rule in SMALL[::17]]
        for one, ones in sample:
            for other, others in sample:
                first = next((row for row in all_rows(6) if ones.lasts(row) and not others.lasts(row)), None)
                self.assertEqual(parting(one, other), first, (repr(one), repr(other)))

    def test_a_parting_row_lasts_by_the_first_one_only(self):
        rules = [rule for rule in chance_rules(60, 21) if self.is_narrow(rule)]
        for one, other in zip(rules, rules[1:]):
            row = parting(one, other)
            if row is None:
                for signs in (1, 5, 20):
                    self.assertLessEqual(how_many(one, signs), how_many(other, signs))
            else:
                self.assertIs(lasting(one, row), True)
                self.assertIs(lasting(other, row), False)
                self.assertIs(row == "" or lasting(other, row[:-1]), True)
            self.assertIs(alike(one, other), row is None and parting(other, one) is None)

    def is_narrow(self, rule):
        try:
            return len(web(rule)) >= 0
        except TooWide:
            return False

    def test_alike(self):
        self.assertIs(alike(NO_TWO, Rule(low=1)), True)
        self.assertIs(alike(Rule(["11", "101"]), Rule(low=2)), True)
        self.assertIs(alike(Rule(["000"]), Rule(high=2)), True)
        self.assertIs(alike(NO_TWO, Rule(["11"])), True)
        self.assertIs(alike(Rule(["00", "11"]), SWINGING), True)
        self.assertIs(alike(Rule(["00", "01"]), Rule(["0"])), True)
        self.assertIs(alike(NO_TWO, FREE), False)
        self.assertIs(alike(FREE, NO_TWO), False)
        self.assertIs(alike(Rule(["0"]), Rule(["1"])), False)

    def test_too_wide_of_the_first_then_of_the_second_one(self):
        for asked in (parting, alike):
            self.too_wide(41, asked, WIDE_RULE, WIDER_RULE)
            self.too_wide(72, asked, WIDER_RULE, WIDE_RULE)
            self.too_wide(41, asked, WIDE_RULE, WIDE_RULE)
            self.too_wide(41, asked, WIDE_RULE, FREE)
            self.too_wide(41, asked, FREE, WIDE_RULE)
            for rule in NONE_LASTS:
                self.too_wide(41, asked, rule, WIDE_RULE)
                self.too_wide(41, asked, WIDE_RULE, rule)

    def test_forty_stands_are_not_too_wide(self):
        one, other = JUST_FORTY[:2]
        self.assertIs(alike(one, one), True)
        self.assertIs(alike(one, other), False)
        self.assertIs(parting(one, one), None)
        self.assertIsNotNone(parting(one, other))

    def test_names(self):
        self.assertEqual(parting(other=NO_TWO, one=FREE), "11")
        self.assertIs(alike(other=NO_TWO, one=FREE), False)

    def test_questions_leave_the_rules_as_they_are(self):
        one, other = Rule(["11", "000"], 1, 3, 4), Rule(["0"])
        parting(one, other), alike(one, other), how_many(one, 9), row_at(one, 2, 0), number_of(one, "01")
        self.assertEqual(repr(one), "Rule(['000', '11'], low=1, high=3, span=4)")
        self.assertEqual(other, Rule(["0"]))


if __name__ == "__main__":
    unittest.main()

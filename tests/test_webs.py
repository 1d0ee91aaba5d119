"""[5] to [7], and the interface's section on webs."""

import unittest

from oracle import FAR_AHEAD, SlowRows, all_rows, gone, pieces
from pulsewright.errors import BadNumber, BadRow, TooWide, Unlawful
from pulsewright.rules import Rule
from pulsewright.webs import first_to, lasting, stand_of, web
from samples import (
    FREE, GAPS, JUST_FORTY, NO_TWO, NONE_LASTS, SMALL, SWINGING, WIDE, WIDE_RULE, chance_rules)

FAR = 10 ** 29
KNOWN = [
    (FREE, [(0, 0)], [""]),
    (NO_TWO, [(0, 1), (0, None)], ["", "1"]),
    (Rule(["1"]), [(0, None)], [""]),
    (Rule(["0"]), [(None, 0)], [""]),
    (GAPS, [(1, 2), (3, 2), (1, None), (4, 2), (None, 2)], ["", "0", "1", "00", "000"]),
    (SWINGING, [(1, 2), (None, 2), (1, None)], ["", "0", "1"]),
    (Rule(["00", "01"]), [(None, 0)], [""]),
    (Rule(["01"]), [(1, 0), (1, None)], ["", "0"]),
    (Rule(["010"], high=1), [(1, 0), (None, 2), (None, 0)], ["", "0", "01"]),
    (Rule(low=1, high=1), [(1, 2), (None, 2), (1, None)], ["", "0", "1"]),
]


def narrow_rules(many, seed):
    """Rules whose web isn't too wide, with their webs."""
    told = []
    for rule in chance_rules(many, seed):
        try:
            told.append((rule, web(rule)))
        except TooWide:
            pass
    return told


def are_parted(stands, one, other):
    """Whether some row can be gone from just one of two stands."""
    waiting, seen = [(one, other)], set()
    while waiting:
        here, there = waiting.pop()
        if (here is None) != (there is None):
            return True
        if here is not None and (here, there) not in seen:
            seen.add((here, there))
            waiting += list(zip(stands[here], stands[there]))
    return False


class WebCase(unittest.TestCase):
    def refuses_row(self, at, asked, *given):
        with self.assertRaises(BadRow) as caught:
            asked(*given)
        self.assertEqual(caught.exception.at, at)

    def too_wide(self, stands, asked, *given):
        with self.assertRaises(TooWide) as caught:
            asked(*given)
        self.assertEqual(caught.exception.stands, stands)

    def unlawful(self, at, rule, row):
        with self.assertRaises(Unlawful) as caught:
            stand_of(rule, row)
        self.assertEqual(caught.exception.at, at, (rule, row))


class ShapeTest(WebCase):
    def test_known_webs(self):
        for rule, stands, firsts in KNOWN:
            with self.subTest(rule=repr(rule)):
                self.assertEqual(web(rule), stands)
                self.assertEqual([first_to(rule, stand) for stand in range(len(stands))], firsts)

    def test_no_lasting_row_no_stand(self):
        for rule in NONE_LASTS:
            self.assertEqual(web(rule), [], repr(rule))

    def test_against_rows_gone_through_one_by_one(self):
        for rule in SMALL:
            stands, firsts = SlowRows(rule).web(5)
            with self.subTest(rule=repr(rule)):
                self.assertEqual(web(rule), stands)
                self.assertEqual([first_to(rule, stand) for stand in range(len(stands))], firsts)

    def test_just_the_lasting_rows_can_be_gone(self):
        for rule, stands in narrow_rules(80, 11):
            slow = SlowRows(rule)
            rows = {row for signs in range(8) for row in slow.rows(signs)}
            for row in all_rows(7):
                can = bool(stands) and gone(stands, 0, row) is not None
                self.assertEqual(can, row in rows, (repr(rule), row))

    def test_no_two_stands_are_like(self):
        for rule, stands in narrow_rules(60, 12) + [(rule, web(rule)) for rule in JUST_FORTY]:
            for one in range(len(stands)):
                for other in range(one):
                    self.assertTrue(are_parted(stands, one, other), (repr(rule), one, other))

    def test_stands_are_numbered_as_their_first_rows_come(self):
        for rule, stands in narrow_rules(200, 13):
            met, level = [0][:len(stands)], [""][:len(stands)]
            while level and len(met) < len(stands):
                level = [row + sign for row in level for sign in "01"
                         if gone(stands, 0, row + sign) is not None]
                fresh = []
                for row in level:
                    if gone(stands, 0, row) not in met:
                        met.append(gone(stands, 0, row))
                        fresh.append(row)
                level = fresh
            self.assertEqual(met, list(range(len(stands))), repr(rule))

    def test_from_each_stand_rows_go_on(self):
        for rule, stands in narrow_rules(200, 14):
            self.assertNotIn((None, None), stands, repr(rule))

    def test_what_can_be_gone_from_some_stand_can_be_gone_from_stand_0(self):
        for rule, stands in narrow_rules(60, 15):
            for row in all_rows(7):
                if any(gone(stands, stand, row) is not None for stand in range(len(stands))):
                    self.assertIsNotNone(gone(stands, 0, row), (repr(rule), row))

    def test_kinds(self):
        told = web(GAPS)
        self.assertIsInstance(told, list)
        for pair in told:
            self.assertIsInstance(pair, tuple)
            self.assertEqual(len(pair), 2)

    def test_told_lists_are_new_ones(self):
        told = web(NO_TWO)
        told[0] = (1, 1)
        told.append((0, 0))
        self.assertEqual(web(NO_TWO), [(0, 1), (0, None)])
        self.assertIs(lasting(NO_TWO, "11"), False)

    def test_questions_leave_the_rule_as_it_is(self):
        rule = Rule(["11", "000"], 1, 3, 4)
        web(rule), lasting(rule, "01"), stand_of(rule, "01"), first_to(rule, 0)
        self.assertEqual(rule, Rule(["11", "000"], 1, 3, 4))
        self.assertEqual(repr(rule), "Rule(['000', '11'], low=1, high=3, span=4)")


class WideTest(WebCase):
    def test_just_forty_stands(self):
        for rule in JUST_FORTY:
            with self.subTest(rule=repr(rule)):
                self.assertEqual(len(web(rule)), 40)
                self.assertIs(lasting(rule, ""), True)
                self.assertEqual(stand_of(rule, first_to(rule, 39)), 39)
                with self.assertRaises(BadNumber):
                    first_to(rule, 40)

    def test_more_than_forty(self):
        for rule, stands in WIDE:
            with self.subTest(rule=repr(rule)):
                self.too_wide(stands, web, rule)
                self.too_wide(stands, lasting, rule, "")
                self.too_wide(stands, lasting, rule, "0" * 30)
                self.too_wide(stands, stand_of, rule, "01")
                self.too_wide(stands, first_to, rule, 0)

    def test_what_is_lawful_is_told_of_a_wide_rule_too(self):
        self.assertIs(WIDE_RULE.lets("0101"), True)
        self.assertEqual(WIDE_RULE.fault("00011"), 5)

    def test_bad_row_comes_ahead_of_too_wide(self):
        self.refuses_row(2, lasting, WIDE_RULE, "01x")
        self.refuses_row(0, stand_of, WIDE_RULE, "?1")

    def test_too_wide_comes_ahead_of_unlawful_and_bad_number(self):
        self.too_wide(41, stand_of, WIDE_RULE, "00011")
        self.too_wide(41, stand_of, WIDE_RULE, "1" * 50)
        for stand in (-1, 41, FAR):
            self.too_wide(41, first_to, WIDE_RULE, stand)


class LastingTest(WebCase):
    def test_lasting(self):
        self.assertIs(lasting(FREE, ""), True)
        self.assertIs(lasting(NO_TWO, "0101001"), True)
        self.assertIs(lasting(NO_TWO, "01101"), False)
        self.assertIs(lasting(GAPS, "0001"), True)
        self.assertIs(lasting(GAPS, "0000"), False)

    def test_lawful_rows_that_do_not_last(self):
        rule = Rule(["00", "01"])
        self.assertIs(rule.lets("110"), True)
        self.assertIs(lasting(rule, "110"), False)
        self.assertIs(lasting(rule, "11"), True)
        dying = Rule(["1"], high=3)
        self.assertIs(dying.lets("000"), True)
        self.assertIs(lasting(dying, "000"), False)

    def test_where_none_lasts_the_empty_one_neither(self):
        for rule in NONE_LASTS:
            self.assertIs(rule.lets(""), True)
            self.assertIs(lasting(rule, ""), False, repr(rule))
            self.assertIs(lasting(rule, "01"), False, repr(rule))

    def test_against_rows_gone_through_one_by_one(self):
        for rule, stands in narrow_rules(30, 16):
            slow = SlowRows(rule)
            for row in all_rows(5):
                self.assertIs(lasting(rule, row), slow.lasts(row), (repr(rule), row))

    def test_pieces_of_lasting_rows_are_lasting(self):
        for rule in SMALL[::25]:
            for row in SlowRows(rule).rows(7):
                for piece in pieces(row):
                    self.assertIs(lasting(rule, piece), True, (repr(rule), row, piece))

    def test_refused_rows(self):
        for asked in (lasting, stand_of):
            self.refuses_row(0, asked, FREE, "2")
            self.refuses_row(3, asked, NO_TWO, "110?")
            self.refuses_row(1, asked, NONE_LASTS[0], "0\n")

    def test_long_rows(self):
        self.assertIs(lasting(SWINGING, "01" * 10000), True)
        self.assertIs(lasting(SWINGING, "01" * 9999 + "00"), False)
        self.assertEqual(stand_of(SWINGING, "10" * 10000), 1)
        self.refuses_row(19999, lasting, FREE, "0" * 19999 + "x")

    def test_rows_that_die_late(self):
        rule = NONE_LASTS[-1]
        rows = {0: [""]}
        for signs in range(FAR_AHEAD):
            rows[signs + 1] = [row + sign for row in rows[signs] for sign in "01" if rule.lets(row + sign)]
        self.assertGreater(len(rows[20]), 0)
        self.assertEqual(rows[FAR_AHEAD], [])
        for row in rows[5] + rows[20]:
            self.assertIs(lasting(rule, row), False)


class StandTest(WebCase):
    def test_stand_of(self):
        self.assertEqual(stand_of(FREE, ""), 0)
        self.assertEqual(stand_of(FREE, "0110"), 0)
        self.assertEqual(stand_of(NO_TWO, "001"), 1)
        self.assertEqual(stand_of(NO_TWO, "0010"), 0)
        self.assertEqual([stand_of(GAPS, row) for row in ("", "10", "01", "100", "1000")], [0, 1, 2, 3, 4])

    def test_stand_of_goes_by_the_web(self):
        for rule, stands in narrow_rules(12, 17):
            for row in all_rows(6):
                goal = gone(stands, 0, row) if stands else None
                if goal is not None:
                    self.assertEqual(stand_of(rule, row), goal)
                else:
                    lasts = [signs for signs in range(len(row)) if stands
                             and gone(stands, 0, row[:signs]) is not None]
                    self.unlawful(max(lasts, default=0), rule, row)

    def test_unlawful_tells_the_longest_lasting_beginning(self):
        self.unlawful(1, NO_TWO, "11")
        self.unlawful(3, NO_TWO, "00111010")
        self.unlawful(0, Rule(["0"]), "0")
        self.unlawful(0, Rule(["0"]), "01")
        self.unlawful(3, GAPS, "0000")
        # Lawful up to its last sign, and yet lasting only ahead of the 0.
        self.unlawful(2, Rule(["00", "01"]), "110")
        self.unlawful(2, Rule(["00", "01"]), "1101")

    def test_unlawful_where_no_row_lasts(self):
        for rule in NONE_LASTS:
            for row in ("", "0", "1", "0101"):
                self.unlawful(0, rule, row)

    def test_first_to_leads_to_its_stand(self):
        for rule, stands in narrow_rules(25, 18):
            rows = [first_to(rule, stand) for stand in range(len(stands))]
            self.assertEqual([gone(stands, 0, row) for row in rows], list(range(len(stands))))
            self.assertEqual(rows, sorted(rows, key=lambda row: (len(row), row)))

    def test_first_to_refuses_what_is_no_stand(self):
        for stand in (-1, -2, 2, 3, FAR, -FAR):
            with self.assertRaises(BadNumber):
                first_to(NO_TWO, stand)
        for rule in NONE_LASTS:
            for stand in (0, 1, -1):
                with self.assertRaises(BadNumber):
                    first_to(rule, stand)

    def test_names(self):
        self.assertEqual(web(rule=NO_TWO), [(0, 1), (0, None)])
        self.assertIs(lasting(row="11", rule=NO_TWO), False)
        self.assertEqual(stand_of(row="01", rule=NO_TWO), 1)
        self.assertEqual(first_to(stand=1, rule=NO_TWO), "1")


if __name__ == "__main__":
    unittest.main()

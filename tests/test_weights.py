"""[10] to [13], and the interface's section on weights."""

import itertools
import unittest

from oracle import SlowRows
from pulsewright.errors import BadPace, BadWeights, TooWide
from pulsewright.rules import Rule
from pulsewright.webs import first_to, stand_of, web
from pulsewright.weights import (
    bears, fit, least_most, left_by, lowerings, paces, steps, weights)
from samples import FREE, GAPS, JUST_FORTY, NO_TWO, NONE_LASTS, SMALL, SWINGING, WIDE, WIDE_RULE

FAR = 10 ** 29
PACES = list(itertools.product((1, 2, 3), (1, 2, 3, 4)))
OUTSIDE = {"p": (0, 4, -1, FAR, -FAR), "q": (0, 5, -1, FAR, -FAR), "most": (0, 13, -1, FAR, -FAR)}
SAMPLE = SMALL[::7] + JUST_FORTY[:2]
NARROW = [rule for rule in SMALL if 0 < len(web(rule)) <= 3]


def slow_bears(rule, q, given):
    return [sum(given[goal] for row, goal in stand) for stand in steps(rule, q)]


def slow_fit(rule, p, q, given):
    return all(much >= 2 ** p * weight for much, weight in zip(slow_bears(rule, q, given), given))


def slow_left(rule, p, q, most, down):
    """What pairs leave, each looked at by the words of the document."""
    left = [most] * len(web(rule))
    for stand, weight in down:
        if stand not in range(len(left)) or not weight < left[stand]:
            return None
        if weight < slow_bears(rule, q, left)[stand] // 2 ** p:
            return None
        left[stand] = weight
    return left


class WeightCase(unittest.TestCase):
    def bad_pace(self, part, asked, *given, **named):
        with self.assertRaises(BadPace) as caught:
            asked(*given, **named)
        self.assertEqual(caught.exception.part, part)

    def too_wide(self, stands, asked, *given):
        with self.assertRaises(TooWide) as caught:
            asked(*given)
        self.assertEqual(caught.exception.stands, stands)


class RefusedTest(WeightCase):
    def test_bounds_of_p(self):
        for rule in (FREE, WIDE_RULE, NONE_LASTS[0]):
            for p in OUTSIDE["p"]:
                for q, most in ((1, 8), (0, 8), (5, 13), (1, 0)):
                    self.bad_pace("p", weights, rule, p, q, most)
                    self.bad_pace("p", lowerings, rule, p, q, most)
                    self.bad_pace("p", left_by, rule, p, q, most, [(0, 0)])
                    self.bad_pace("p", least_most, rule, p, q)
                    self.bad_pace("p", fit, rule, p, q, [-1, 0, 0])

    def test_bounds_of_q(self):
        for rule in (FREE, WIDE_RULE, NONE_LASTS[0]):
            for q in OUTSIDE["q"]:
                for p, most in ((1, 8), (3, 0), (2, 13)):
                    self.bad_pace("q", weights, rule, p, q, most)
                    self.bad_pace("q", lowerings, rule, p, q, most)
                    self.bad_pace("q", left_by, rule, p, q, most, [])
                    self.bad_pace("q", least_most, rule, p, q)
                    self.bad_pace("q", fit, rule, p, q, [-1, 0, 0])
                self.bad_pace("q", steps, rule, q)
                self.bad_pace("q", bears, rule, q, [-1, 0, 0])

    def test_bounds_of_most(self):
        for rule in (FREE, WIDE_RULE, NONE_LASTS[0]):
            for most in OUTSIDE["most"]:
                self.bad_pace("most", weights, rule, 1, 1, most)
                self.bad_pace("most", lowerings, rule, 3, 4, most)
                self.bad_pace("most", left_by, rule, 2, 2, most, [(9, 9)])
                self.bad_pace("most", paces, rule, most)

    def test_what_is_just_within_the_bounds(self):
        for p, q in PACES:
            for most in (1, 12):
                self.assertEqual(weights(FREE, p, q, most), [most if p <= q else 0])

    def test_too_wide(self):
        for rule, stands in WIDE:
            self.too_wide(stands, steps, rule, 1)
            self.too_wide(stands, weights, rule, 1, 1)
            self.too_wide(stands, bears, rule, 1, [1] * stands)
            self.too_wide(stands, fit, rule, 1, 1, [1] * stands)
            self.too_wide(stands, lowerings, rule, 1, 1)
            self.too_wide(stands, left_by, rule, 1, 1, 8, [])
            self.too_wide(stands, least_most, rule, 1, 1)
            self.too_wide(stands, paces, rule)

    def test_too_wide_comes_ahead_of_bad_weights(self):
        self.too_wide(41, bears, WIDE_RULE, 1, [])
        self.too_wide(41, bears, WIDE_RULE, 1, [-1])
        self.too_wide(41, fit, WIDE_RULE, 1, 1, [])
        self.too_wide(41, left_by, WIDE_RULE, 1, 1, 8, [(-1, -1)])

    def test_bad_weights(self):
        for rule in (FREE, NO_TWO, GAPS, JUST_FORTY[0]):
            many = len(web(rule))
            wrong = [[1] * (many - 1), [1] * (many + 1), [0] * 600, [1] * (many - 1) + [-1],
                     [-FAR] + [1] * (many - 1), [-1] * (many + 1)]
            for given in wrong:
                with self.assertRaises(BadWeights):
                    bears(rule, 2, given)
                with self.assertRaises(BadWeights):
                    fit(rule, 1, 2, given)
        for rule in NONE_LASTS:
            with self.assertRaises(BadWeights):
                bears(rule, 1, [0])
            with self.assertRaises(BadWeights):
                fit(rule, 1, 1, [0])


class StepTest(WeightCase):
    def test_known(self):
        self.assertEqual(steps(FREE, 1), [[("0", 0), ("1", 0)]])
        self.assertEqual(steps(NO_TWO, 1), [[("0", 0), ("1", 1)], [("0", 0)]])
        self.assertEqual(steps(NO_TWO, 3), [
            [("000", 0), ("001", 1), ("010", 0), ("100", 0), ("101", 1)],
            [("000", 0), ("001", 1), ("010", 0)]])
        self.assertEqual(steps(SWINGING, 4), [[("0101", 2), ("1010", 1)], [("1010", 1)], [("0101", 2)]])
        self.assertEqual(len(steps(FREE, 4)[0]), 16)

    def test_none_where_the_web_is_empty(self):
        for rule in NONE_LASTS:
            self.assertEqual(steps(rule, 2), [])

    def test_against_rows_gone_through_one_by_one(self):
        for rule in SMALL[::19]:
            slow = SlowRows(rule)
            for q in (1, 2, 3, 4):
                for stand, told in enumerate(steps(rule, q)):
                    row = first_to(rule, stand)
                    rows = [more for more in slow.behind(row, q) if len(more) == q]
                    self.assertEqual(told, [(more, stand_of(rule, row + more)) for more in rows])

    def test_kinds_and_new_lists(self):
        told = steps(NO_TWO, 2)
        self.assertIsInstance(told, list)
        for stand in told:
            self.assertIsInstance(stand, list)
            for step in stand:
                self.assertIsInstance(step, tuple)
        told[0].append(("11", 0))
        told.append([])
        self.assertEqual(steps(NO_TWO, 2), [[("00", 0), ("01", 1), ("10", 0)], [("00", 0), ("01", 1)]])


class BearsTest(WeightCase):
    def test_known(self):
        self.assertEqual(bears(NO_TWO, 3, [2, 1]), [8, 5])
        self.assertEqual(bears(NO_TWO, 1, [2, 1]), [3, 2])
        self.assertEqual(bears(FREE, 4, [1]), [16])
        self.assertEqual(bears(NO_TWO, 2, [0, 0]), [0, 0])
        self.assertEqual(bears(NO_TWO, 1, [0, 7]), [7, 0])

    def test_great_weights(self):
        self.assertEqual(bears(NO_TWO, 3, [FAR, 5]), [3 * FAR + 10, 2 * FAR + 5])
        self.assertIs(fit(NO_TWO, 2, 3, [2 * FAR, FAR]), True)
        self.assertIs(fit(NO_TWO, 2, 3, [2 * FAR, 2 * FAR]), False)
        self.assertIs(fit(NO_TWO, 2, 3, [20, 10]), True)

    def test_sums_over_all_steps(self):
        for rule in SAMPLE:
            given = [(7 * stand + 3) % 11 for stand in range(len(web(rule)))]
            for q in (1, 2, 3, 4):
                self.assertEqual(bears(rule, q, given), slow_bears(rule, q, given), repr(rule))

    def test_fit(self):
        self.assertIs(fit(NO_TWO, 2, 3, [2, 1]), True)
        self.assertIs(fit(NO_TWO, 2, 3, [1, 1]), False)
        self.assertIs(fit(NO_TWO, 2, 3, [0, 0]), True)
        self.assertIs(fit(NO_TWO, 2, 3, [8, 5]), True)
        self.assertIs(fit(NO_TWO, 2, 3, [8, 6]), False)
        self.assertIs(fit(NO_TWO, 2, 3, [1, 0]), False)
        self.assertIs(fit(FREE, 1, 1, [5]), True)
        self.assertIs(fit(FREE, 2, 1, [5]), False)
        self.assertIs(fit(FREE, 3, 3, [12]), True)
        self.assertIs(fit(FREE, 3, 2, [1]), False)

    def test_fit_by_the_words_of_the_document(self):
        for rule in NARROW:
            for p, q in ((1, 1), (1, 2), (2, 3), (3, 4)):
                for given in itertools.product((0, 1, 2, 5), repeat=len(web(rule))):
                    self.assertIs(fit(rule, p, q, list(given)), slow_fit(rule, p, q, given))

    def test_no_weights_for_no_stands(self):
        for rule in NONE_LASTS:
            self.assertEqual(bears(rule, 1, []), [])
            self.assertIs(fit(rule, 1, 1, []), True)

    def test_what_is_handed_in_is_neither_changed_nor_told(self):
        given = [2, 1]
        told = bears(NO_TWO, 1, given)
        fit(NO_TWO, 1, 1, given)
        self.assertEqual(given, [2, 1])
        told[0] = 99
        self.assertEqual(given, [2, 1])
        refused = [2, -1]
        with self.assertRaises(BadWeights):
            bears(NO_TWO, 1, refused)
        self.assertEqual(refused, [2, -1])


class GreatestTest(WeightCase):
    def test_known(self):
        self.assertEqual(weights(NO_TWO, 2, 3), [8, 5])
        self.assertEqual(weights(NO_TWO, 2, 3, 1), [0, 0])
        self.assertEqual(weights(NO_TWO, 2, 3, 2), [2, 1])
        self.assertEqual(weights(NO_TWO, 1, 1), [0, 0])
        self.assertEqual(weights(NO_TWO, 3, 4, 12), [0, 0])
        self.assertEqual(weights(GAPS, 1, 2, 1), [1, 1, 1, 1, 0])
        self.assertEqual(weights(SWINGING, 1, 4, 12), [0, 0, 0])

    def test_greatest_of_all_that_fit(self):
        for rule in NARROW:
            for p, q in PACES:
                for most in (1, 3):
                    fitting = [given for given in itertools.product(range(most + 1), repeat=len(web(rule)))
                               if slow_fit(rule, p, q, given)]
                    greatest = [max(column) for column in zip(*fitting)]
                    self.assertEqual(weights(rule, p, q, most), greatest, (repr(rule), p, q, most))

    def test_they_fit_and_stand_0_has_the_most(self):
        for rule in SAMPLE:
            for p, q in PACES:
                for most in (1, 8, 12):
                    told = weights(rule, p, q, most)
                    self.assertTrue(slow_fit(rule, p, q, told))
                    self.assertEqual(max(told, default=0), told[0] if told else 0)
                    self.assertLessEqual(max(told, default=0), most)

    def test_left_out_most_is_8(self):
        for rule in SAMPLE:
            for p, q in PACES:
                self.assertEqual(weights(rule, p, q), weights(rule, p, q, 8))
                self.assertEqual(lowerings(rule, p, q), lowerings(rule, p, q, 8))
            self.assertEqual(paces(rule), paces(rule, 8))

    def test_none_where_the_web_is_empty(self):
        for rule in NONE_LASTS:
            self.assertEqual(weights(rule, 1, 4, 12), [])
            self.assertEqual(lowerings(rule, 1, 4, 12), [])
            self.assertEqual(left_by(rule, 1, 4, 12, []), [])
            self.assertIs(left_by(rule, 1, 4, 12, [(0, 0)]), None)
            self.assertIs(least_most(rule, 1, 4), None)
            self.assertEqual(paces(rule, 12), [])

    def test_told_lists_are_new_ones(self):
        for asked in (weights, lowerings):
            told = asked(NO_TWO, 2, 3)
            again = asked(NO_TWO, 2, 3)
            self.assertIsInstance(told, list)
            told.clear()
            self.assertEqual(asked(NO_TWO, 2, 3), again)


class LoweringTest(WeightCase):
    def test_told_lowerings_are_a_paper(self):
        for rule in SAMPLE:
            for p, q in PACES:
                for most in (1, 8, 12):
                    down = lowerings(rule, p, q, most)
                    told = weights(rule, p, q, most)
                    self.assertEqual(slow_left(rule, p, q, most, down), told, (repr(rule), p, q, most))
                    self.assertEqual(left_by(rule, p, q, most, down), told, (repr(rule), p, q, most))
                    self.assertLessEqual(len(down), 600)
                    for pair in down:
                        self.assertIsInstance(pair, tuple)

    def test_none_are_needed_where_all_may_stay(self):
        self.assertEqual(lowerings(FREE, 1, 1), [])
        self.assertEqual(lowerings(FREE, 3, 4, 12), [])

    def test_left_by(self):
        self.assertEqual(left_by(NO_TWO, 2, 3, 8, []), [8, 8])
        self.assertEqual(left_by(NO_TWO, 2, 3, 8, [(1, 7)]), [8, 7])
        self.assertEqual(left_by(NO_TWO, 2, 3, 8, [(1, 6)]), [8, 6])
        self.assertEqual(left_by(NO_TWO, 2, 3, 8, [(1, 7), (1, 6)]), [8, 6])
        self.assertEqual(left_by(NO_TWO, 2, 3, 8, [(1, 6), (1, 5)]), [8, 5])

    def test_what_is_no_lowering(self):
        for wrong in ((1, 5), (1, 8), (1, 9), (1, -1), (0, 8), (0, 7), (0, 10), (2, 0), (2, 7), (-1, 7), (-1, 6),
                      (-2, 7), (FAR, 7), (-FAR, 7), (1, FAR), (1, -FAR), (0, 0)):
            self.assertIs(left_by(NO_TWO, 2, 3, 8, [wrong]), None, wrong)
            self.assertIs(left_by(NO_TWO, 2, 3, 8, [wrong, (1, 6)]), None, wrong)
        self.assertIs(left_by(NO_TWO, 2, 3, 8, [(1, 6), (1, 6)]), None)
        self.assertIs(left_by(NO_TWO, 2, 3, 8, [(1, 6), (1, 7)]), None)
        self.assertIs(left_by(NO_TWO, 2, 3, 8, [(1, 6), (1, 5), (1, 4)]), None)
        self.assertIs(left_by(NO_TWO, 2, 3, 8, [(1, 6)] + [(0, 8)] * 599), None)

    def test_what_the_stand_bears_then_counts_its_own_weight_then(self):
        self.assertEqual(left_by(FREE, 2, 1, 8, [(0, 4)]), [4])
        self.assertIs(left_by(FREE, 2, 1, 8, [(0, 3)]), None)
        self.assertEqual(left_by(FREE, 2, 1, 8, [(0, 4), (0, 2), (0, 1), (0, 0)]), [0])
        self.assertIs(left_by(FREE, 2, 1, 8, [(0, 4), (0, 2), (0, 0)]), None)
        self.assertEqual(left_by(FREE, 2, 1, 1, [(0, 0)]), [0])
        self.assertIs(left_by(FREE, 2, 1, 1, [(0, 0), (0, -1)]), None)

    def test_by_the_words_of_the_document(self):
        for rule in NARROW[::5]:
            pairs = list(itertools.product(range(-1, len(web(rule)) + 1), range(-1, 4)))
            for p, q in ((1, 1), (1, 2), (2, 2), (3, 1)):
                for down in itertools.product(pairs, repeat=2):
                    self.assertEqual(left_by(rule, p, q, 3, list(down)), slow_left(rule, p, q, 3, down))

    def test_nothing_that_fits_is_above_what_is_left(self):
        for rule in NARROW[::3]:
            for p, q in PACES:
                down = lowerings(rule, p, q, 3)
                for many in range(len(down) + 1):
                    left = left_by(rule, p, q, 3, down[:many])
                    for weight, kept in zip(weights(rule, p, q, 3), left):
                        self.assertLessEqual(weight, kept)

    def test_what_is_handed_in_is_not_changed(self):
        down = [(1, 6), (1, 5)]
        left_by(NO_TWO, 2, 3, 8, down)
        self.assertEqual(down, [(1, 6), (1, 5)])
        rule = Rule(["11", "000"], 1, 3, 4)
        weights(rule, 1, 2), lowerings(rule, 1, 2), paces(rule), steps(rule, 2), least_most(rule, 1, 2)
        self.assertEqual(repr(rule), "Rule(['000', '11'], low=1, high=3, span=4)")


class PaceTest(WeightCase):
    def test_known(self):
        self.assertEqual(paces(FREE), [(1, 1), (1, 2), (1, 3), (1, 4), (2, 2), (2, 3), (2, 4), (3, 3), (3, 4)])
        self.assertEqual(paces(NO_TWO), [(1, 2), (1, 3), (1, 4), (2, 3), (2, 4)])
        self.assertEqual(paces(NO_TWO, 1), [(1, 2), (1, 3), (1, 4), (2, 4)])
        self.assertEqual(paces(SWINGING, 12), [])
        self.assertEqual(paces(Rule(["1"]), 12), [])

    def test_good_where_the_greatest_weights_are_not_all_nought(self):
        for rule in SAMPLE:
            for most in (1, 2, 8, 12):
                good = [(p, q) for p, q in PACES if any(weights(rule, p, q, most))]
                self.assertEqual(paces(rule, most), good, repr(rule))

    def test_least_most(self):
        self.assertEqual(least_most(FREE, 1, 1), 1)
        self.assertEqual(least_most(NO_TWO, 2, 3), 2)
        self.assertIs(least_most(NO_TWO, 3, 4), None)
        self.assertIs(least_most(FREE, 2, 1), None)

    def test_least_most_is_the_least(self):
        found = {}
        for rule in SAMPLE:
            for p, q in PACES:
                good = [most for most in range(1, 13) if any(weights(rule, p, q, most))]
                least = least_most(rule, p, q)
                self.assertEqual(least, min(good, default=None))
                found[least] = True
        self.assertGreater(len(found), 3)

    def test_a_pace_that_is_good_from_8_on_and_one_from_9_on(self):
        eight = Rule(["0001", "0011", "10101"], high=3)
        self.assertEqual(least_most(eight, 2, 3), 8)
        self.assertIn((2, 3), paces(eight))
        self.assertNotIn((2, 3), paces(eight, 7))
        nine = Rule(["0100", "0110", "10100"], high=5)
        self.assertEqual(least_most(nine, 3, 4), 9)
        self.assertNotIn((3, 4), paces(nine))
        self.assertIn((3, 4), paces(nine, 9))

    def test_a_pace_that_needs_12_and_one_that_needs_more(self):
        self.assertEqual(least_most(Rule(["10001", "111"], high=4), 3, 4), 12)
        beyond = Rule(["00100", "1100", "111"], high=5)
        self.assertIs(least_most(beyond, 2, 3), None)
        self.assertIs(fit(beyond, 2, 3, [13, 13, 11, 10, 4, 9, 7, 7, 7, 4]), True)

    def test_kinds(self):
        told = paces(FREE)
        self.assertIsInstance(told, list)
        for pair in told:
            self.assertIsInstance(pair, tuple)

    def test_names(self):
        self.assertEqual(steps(q=1, rule=FREE), [[("0", 0), ("1", 0)]])
        self.assertEqual(weights(most=2, q=3, p=2, rule=NO_TWO), [2, 1])
        self.assertEqual(bears(given=[2, 1], q=3, rule=NO_TWO), [8, 5])
        self.assertIs(fit(given=[2, 1], q=3, p=2, rule=NO_TWO), True)
        self.assertEqual(lowerings(most=8, q=1, p=1, rule=FREE), [])
        self.assertEqual(left_by(steps_down=[(1, 7)], most=8, q=3, p=2, rule=NO_TWO), [8, 7])
        self.assertEqual(least_most(q=3, p=2, rule=NO_TWO), 2)
        self.assertEqual(paces(most=1, rule=NO_TWO), [(1, 2), (1, 3), (1, 4), (2, 4)])


if __name__ == "__main__":
    unittest.main()

"""differs, turns: one day's law beside another's."""

import unittest

from helper import (BOTTOM, TOP, answered, ask, bring, define, differs, facts, last_answer, name, part, proving, rule,
                    take, turns)

STRICT, USUAL, GUARD = 0, 1, 2


class Differs(unittest.TestCase):
    def test_nothing_is_told(self):
        self.assertEqual(answered(differs(0, 60000), differs(5, 5)), [[0], [0]])

    def test_wrong_days(self):
        self.assertEqual(answered(differs(60001, 0), differs(0, 60001), differs(TOP, TOP), differs(60000, 60000)),
                         [[-1], [-1], [-1], [0]])

    def test_a_rule_begins_and_ends(self):
        told = rule(USUAL, says=7, start=10, end=20)
        found = answered(told, differs(9, 10), differs(10, 9), differs(10, 19), differs(19, 20), differs(0, 30))[1:]
        self.assertEqual(found, [[1, 7], [1, 7], [0], [1, 7], [0]])

    def test_they_rise_whatever_the_order_told(self):
        told = [rule(USUAL, says=9, start=10), rule(USUAL, says=-4, start=10), name(6, 0, [3]), name(2, 0, [8]),
                define(0, 5, 10, 0, [3]), bring(words=[5])]
        self.assertEqual(last_answer(*told, differs(0, 10)), [3, 4, 6, 9])

    def test_a_definition_begins_and_ends(self):
        told = [part(), define(1, 5, 10, 20, [3]), define(0, 5, 15, 0, [4]), name(1, 0, [3]), name(2, 0, [4]),
                bring(1, 0, [5])]
        found = answered(*told, differs(9, 10), differs(14, 15), differs(19, 20), differs(9, 20))[6:]
        self.assertEqual(found, [[1, 1], [0], [2, 1, 2], [1, 2]])

    def test_only_spoken_of_below_0_or_in_conditions(self):
        told = [rule(USUAL, says=-3, start=10), rule(USUAL, says=8, conditions=[-5]), rule(USUAL, says=-5, start=10)]
        self.assertEqual(last_answer(*told, differs(0, 10)), [3, 3, 5, 8])

    def test_rules_that_are_in_force_on_neither_day(self):
        # 4 is undecided on one of the days by rules in force; the rule that speaks of 6 says nothing of either.
        told = [rule(USUAL, says=6, start=100, end=200), rule(USUAL, says=4, start=10)]
        self.assertEqual(answered(*told, differs(0, 10), differs(10, 100), differs(0, 200))[2:],
                         [[1, 4], [1, 6], [1, 4]])

    def test_how_it_is_asked_not_why(self):
        told = [rule(USUAL, says=1, end=10), rule(USUAL, says=1, start=10)]
        self.assertEqual(last_answer(*told, differs(9, 10)), [0])

    def test_each_change_of_the_answer_counts(self):
        # 0, then 1, then 3, then 2, then 4, then 5.
        told = [rule(USUAL, says=1, start=10, end=30), rule(USUAL, says=-1, start=20, end=40),
                rule(USUAL, says=1, start=40, end=50, conditions=[1]), rule(STRICT, says=1, start=50),
                rule(STRICT, says=-1, start=50)]
        days = (0, 10, 20, 30, 40, 50)
        self.assertEqual([last_answer(*told, ask(day)) for day in days], [[0], [1], [3], [2], [4], [5]])
        for one in days:
            for other in days:
                with self.subTest(one=one, other=other):
                    self.assertEqual(last_answer(*told, differs(one, other)), [0] if one == other else [1, 1])

    def test_all_20(self):
        told = [name(k, 0, [k]) for k in range(20, 0, -1)] + [define(0, k, 10, 0, [99]) for k in range(1, 11)]
        told += [bring(words=[k]) for k in range(1, 13)]
        self.assertEqual(last_answer(*told, facts(0)), [12, *range(1, 13)])
        self.assertEqual(last_answer(*told, facts(10)), [12, 10, 9, 8, 7, 6, 5, 4, 3, 2, 1, 11, 12])
        self.assertEqual(last_answer(*told, differs(0, 10)), [0])
        self.assertEqual(last_answer(*told, take(11), take(10), bring(words=[99]), differs(0, 10)), [0])
        self.assertEqual(last_answer(*told, *[take(0)] * 9, differs(0, 10)), [9, *range(1, 10)])

    def test_no_more_than_is_spoken_of(self):
        self.assertEqual(last_answer(*proving(1), differs(0, 100)), [0])


class Turns(unittest.TestCase):
    def test_wrong_days_and_statements(self):
        found = answered(turns(60001, 1), turns(TOP, 1), turns(0, 0), turns(0, 21), turns(0, -21), turns(0, TOP),
                         turns(0, BOTTOM), turns(60000, 20), turns(60000, -20))
        self.assertEqual(found, [[-1]] * 7 + [[-6]] * 2)

    def test_a_rule_begins_and_ends(self):
        told = rule(USUAL, says=7, start=10, end=20)
        found = answered(told, turns(0, 7), turns(9, 7), turns(10, 7), turns(19, 7), turns(20, 7), turns(9, -7))[1:]
        self.assertEqual(found, [[10, 1], [10, 1], [20, 0], [20, 0], [-6], [10, 2]])

    def test_the_last_day(self):
        told = [rule(USUAL, says=7, start=60000), rule(USUAL, says=8, start=0, end=60000)]
        found = answered(*told, turns(0, 7), turns(59999, 7), turns(60000, 7), turns(0, 8), turns(59999, 8))[2:]
        self.assertEqual(found, [[60000, 1], [60000, 1], [-6], [60000, 0], [60000, 0]])

    def test_what_was_so_from_day_0_on(self):
        self.assertEqual(last_answer(rule(USUAL, says=7), turns(0, 7)), [-6])

    def test_changes_that_leave_it_as_it_was(self):
        told = [rule(USUAL, says=1, end=10), rule(USUAL, says=1, start=10, end=30), rule(USUAL, says=2, start=5),
                rule(USUAL, says=1, start=20, end=25), rule(USUAL, says=-1, start=40, end=50)]
        found = answered(*told, turns(0, 1), turns(29, 1), turns(30, 1), turns(40, 1), turns(0, 2), turns(5, 2))[5:]
        self.assertEqual(found, [[30, 0], [30, 0], [40, 2], [50, 0], [5, 1], [-6]])

    def test_a_gap_of_one_day(self):
        told = [rule(USUAL, says=1, end=10), rule(USUAL, says=1, start=11)]
        self.assertEqual(answered(*told, turns(0, 1), turns(10, 1), turns(11, 1))[2:], [[10, 0], [11, 1], [-6]])

    def test_definitions_begin_and_end(self):
        told = [part(), define(1, 5, 10, 20, [3]), define(0, 5, 15, 0, [4]), name(1, 0, [3]), name(2, 0, [4]),
                bring(1, 0, [5])]
        found = answered(*told, turns(0, 1), turns(10, 1), turns(20, 1), turns(0, -2), turns(20, 2))[6:]
        self.assertEqual(found, [[10, 2], [20, 0], [-6], [20, 1], [-6]])

    def test_a_circle_comes_and_goes(self):
        told = [define(0, 5, body=[6]), define(0, 6, 10, 20, body=[5]), name(1, 0, [6]), bring(0, 1, [5])]
        self.assertEqual(answered(*told, turns(0, 1), turns(10, 1), turns(20, 1))[4:], [[10, 0], [20, 1], [-6]])

    def test_a_guard_and_a_rule_by_a_chain(self):
        told = [rule(USUAL, says=1), rule(USUAL, says=2, conditions=[1]), rule(GUARD, 1, says=-1, start=30, end=33)]
        self.assertEqual(answered(*told, turns(0, 2), turns(30, 2), turns(33, 2))[3:], [[30, 0], [33, 1], [-6]])

    def test_each_answer_is_told(self):
        told = [rule(USUAL, says=1, start=10, end=30), rule(USUAL, says=-1, start=20, end=40),
                rule(USUAL, says=1, start=40, end=50, conditions=[1]), rule(STRICT, says=1, start=50),
                rule(STRICT, says=-1, start=50)]
        found = answered(*told, turns(0), turns(10), turns(20), turns(30), turns(40), turns(50))[5:]
        self.assertEqual(found, [[10, 1], [20, 3], [30, 2], [40, 4], [50, 5], [-6]])

    def test_what_is_told_by_date_and_event_changes_no_day(self):
        told = [rule(USUAL, date=100, says=1), rule(USUAL, date=200, says=-1)]
        self.assertEqual(last_answer(*told, turns(0, 1)), [-6])

    def test_no_later_day_that_is_told_is_earlier_than_the_first(self):
        told = [rule(USUAL, says=1, start=60, end=61), rule(USUAL, says=-1, start=13, end=14),
                rule(USUAL, says=1, start=37, end=38), define(0, 5, 25, 26, [1]), name(1, 0, [1]), bring(0, 0, [5])]
        found = answered(*told, *[turns(day, 1) for day in (0, 13, 14, 25, 26, 37, 38, 60)])[6:]
        self.assertEqual(found, [[13, 2], [14, 0], [25, 2], [26, 0], [37, 1], [38, 0], [60, 1], [61, 0]])


if __name__ == "__main__":
    unittest.main()

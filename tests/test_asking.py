"""ask, why: what is shown, round by round, and by what."""

import itertools
import unittest

from helper import (BOTTOM, TOP, answered, ask, bring, define, first, last_answer, name, order, proving, rule, take,
                    why)

STRICT, USUAL, GUARD = 0, 1, 2
TOLD, RANK, SPECIAL, DATE = 1, 2, 3, 4


def asks(*told, statements, day=0):
    """How the statements are asked."""
    found = answered(*told, *[ask(day, statement) for statement in statements])
    return [answer[0] for answer in found[len(told):]]


class Wrong(unittest.TestCase):
    def test_days_and_statements(self):
        for call in (ask, why):
            with self.subTest(call=call):
                found = answered(call(60001, 1), call(TOP, 1), call(0, 0), call(0, 21), call(0, -21), call(0, TOP),
                                 call(0, BOTTOM), call(60001, 0))
                self.assertEqual(found, [[-1]] * 8)

    def test_the_greatest_and_least(self):
        self.assertEqual(answered(ask(60000, 20), ask(60000, -20), ask(0, 1), ask(0, -1)), [[0]] * 4)
        self.assertEqual(answered(why(60000, 20), why(60000, -20)), [[-6]] * 2)

    def test_wrong_is_told_before_none_such(self):
        self.assertEqual(answered(why(60001, 20), why(0, 21)), [[-1], [-1]])


class Strictly(unittest.TestCase):
    def test_facts(self):
        self.assertEqual(asks(*proving(3, -4), statements=[3, -3, 4, -4, 5, -5]), [1, 2, 2, 1, 0, 0])

    def test_both(self):
        told = proving(3, -3)
        self.assertEqual(asks(*told, statements=[3, -3]), [5, 5])
        self.assertEqual(answered(*told, why(0, 3), why(0, -3))[-2:], [[0, 0], [0, 1]])

    def test_a_chain_of_strict_rules(self):
        told = [*proving(1), rule(STRICT, says=-4, conditions=[3]), rule(STRICT, says=3, conditions=[2, 1]),
                rule(STRICT, says=2, conditions=[1])]
        self.assertEqual(asks(*told, statements=[2, 3, 4, -4]), [1, 1, 2, 1])
        found = answered(*told, why(0, 1), why(0, 2), why(0, 3), why(0, -4))[-4:]
        self.assertEqual(found, [[0, 0], [1, 2], [1, 1], [1, 0]])

    def test_a_strict_rule_without_conditions(self):
        self.assertEqual(answered(rule(STRICT, says=-2), ask(0, -2), why(0, -2), ask(0, 2))[1:], [[1], [1, 0], [2]])

    def test_both_by_strict_rules(self):
        told = [*proving(1), rule(STRICT, says=2, conditions=[1]), rule(STRICT, says=-2)]
        self.assertEqual(asks(*told, statements=[2, -2]), [5, 5])
        self.assertEqual(answered(*told, why(0, 2), why(0, -2))[-2:], [[1, 0], [1, 1]])

    def test_the_first_strict_rule_whose_conditions_follow(self):
        told = [*proving(1), rule(STRICT, says=2, conditions=[5]), rule(USUAL, says=2, conditions=[1]),
                rule(STRICT, says=2, conditions=[1]), rule(STRICT, says=2)]
        self.assertEqual(last_answer(*told, why(0, 2)), [1, 2])

    def test_not_by_conditions_that_only_usually_hold(self):
        told = [rule(USUAL, says=1), rule(STRICT, says=2, conditions=[1])]
        self.assertEqual(answered(*told, why(0, 1), why(0, 2))[2:], [[2, 0, 0], [2, 1, 0]])
        self.assertEqual(asks(*told, rule(USUAL, says=-2, conditions=[1]), statements=[2]), [3])

    def test_a_fact_is_told_before_a_strict_rule(self):
        self.assertEqual(last_answer(rule(STRICT, says=1), *proving(1), why(0, 1)), [0, 0])

    def test_the_first_proof(self):
        told = [name(1, 0, [1]), name(2, 0, [2]), bring(words=[2]), bring(0, 0, [1]), bring(words=[1]),
                bring(words=[1])]
        self.assertEqual(answered(*told, why(0, 1), why(0, -1), why(0, 2))[6:], [[0, 2], [0, 1], [0, 0]])
        self.assertEqual(last_answer(*told, take(2), why(0, 1)), [0, 2])

    def test_the_first_proof_of_that_day(self):
        told = [name(1, 0, [1]), define(0, 5, 10, 20, [1]), bring(words=[5]), bring(words=[1])]
        self.assertEqual(answered(*told, why(9, 1), why(10, 1), why(20, 1))[4:], [[0, 1], [0, 0], [0, 1]])

    def test_what_follows_strictly_is_not_touched_by_rules_against(self):
        told = [*proving(1), rule(USUAL, 9, says=-1), rule(GUARD, 9, says=-1), rule(STRICT, says=2, conditions=[1]),
                rule(USUAL, 9, says=-2)]
        self.assertEqual(asks(*told, statements=[1, -1, 2, -2]), [1, 2, 1, 2])

    def test_the_opposite_of_what_follows_strictly_is_not_shown(self):
        told = [*proving(-1), rule(USUAL, 9, says=1), rule(USUAL, says=3, conditions=[1])]
        self.assertEqual(asks(*told, statements=[1, 3]), [2, 0])

    def test_strict_rules_that_lead_to_themselves(self):
        told = [rule(STRICT, says=1, conditions=[2]), rule(STRICT, says=2, conditions=[1])]
        self.assertEqual(asks(*told, statements=[1, 2, -1]), [4, 4, 4])
        self.assertEqual(last_answer(*told, *proving(2), why(0, 1)), [1, 0])


class Usually(unittest.TestCase):
    def test_nothing_is_said(self):
        self.assertEqual(asks(statements=[7, -7]), [0, 0])

    def test_only_spoken_of_in_conditions(self):
        self.assertEqual(asks(rule(USUAL, says=1, conditions=[2]), statements=[2, -2, 1, -1]), [0, 0, 0, 0])

    def test_without_conditions(self):
        self.assertEqual(asks(rule(USUAL, says=1), statements=[1, -1]), [1, 2])
        self.assertEqual(last_answer(rule(USUAL, says=1), why(0, 1)), [2, 0, 0])

    def test_all_conditions_must_hold(self):
        told = [*proving(1, 2), rule(USUAL, says=3, conditions=[1, 2]), rule(USUAL, says=4, conditions=[1, 5]),
                rule(USUAL, says=5, conditions=[6])]
        self.assertEqual(asks(*told, statements=[3, 4, -4]), [1, 0, 0])

    def test_a_guard_shows_nothing(self):
        self.assertEqual(asks(rule(GUARD, says=1), statements=[1, -1]), [0, 0])

    def test_a_guard_stands_against(self):
        told = [rule(USUAL, says=1), rule(GUARD, says=-1)]
        self.assertEqual(asks(*told, statements=[1, -1]), [0, 0])
        self.assertEqual(asks(rule(USUAL, says=1), rule(GUARD, says=-1, conditions=[2]), statements=[1]), [1])

    def test_a_guard_for_the_same_does_no_harm(self):
        self.assertEqual(asks(rule(USUAL, says=1), rule(GUARD, says=1), statements=[1, -1]), [1, 2])

    def test_rules_that_stand_against_one_another(self):
        told = [rule(USUAL, says=1), rule(USUAL, says=-1)]
        self.assertEqual(asks(*told, statements=[1, -1]), [3, 3])
        self.assertEqual(answered(*told, why(0, 1), why(0, -1))[2:], [[-6], [-6]])

    def test_what_hangs_on_the_undecided_is_not_shown(self):
        told = [rule(USUAL, says=1), rule(USUAL, says=-1), rule(USUAL, says=2, conditions=[1]),
                rule(USUAL, says=3, conditions=[-1])]
        self.assertEqual(asks(*told, statements=[2, 3, -2]), [0, 0, 0])

    def test_conditions_that_hang_on_themselves(self):
        self.assertEqual(asks(rule(USUAL, says=1, conditions=[1]), statements=[1, -1]), [4, 4])
        told = [rule(USUAL, says=1, conditions=[2]), rule(USUAL, says=2, conditions=[1])]
        self.assertEqual(asks(*told, statements=[1, 2, -1, -2]), [4, 4, 4, 4])
        self.assertEqual(last_answer(*told, why(0, 1)), [-6])

    def test_a_rule_against_that_hangs_on_itself(self):
        told = [rule(USUAL, says=1), rule(USUAL, says=-1, conditions=[2]), rule(USUAL, says=2, conditions=[2])]
        self.assertEqual(asks(*told, statements=[1, -1, 2]), [4, 4, 4])

    def test_one_goes_before_though_the_other_hangs_on_itself(self):
        told = [rule(USUAL, 1, says=1), rule(USUAL, says=-1, conditions=[2]), rule(USUAL, says=2, conditions=[2])]
        self.assertEqual(asks(*told, statements=[1, -1]), [1, 2])
        self.assertEqual(last_answer(*told, why(0, 1)), [2, 0, 1, 1, 1, RANK])

    def test_a_team_does_not_stand_in_for_one_another(self):
        # Each rule against is beaten by one rule for it, but no rule for it goes before both.
        told = [rule(USUAL, says=1), rule(USUAL, says=1), rule(USUAL, says=-1), rule(USUAL, says=-1),
                first(0, 2), first(1, 3)]
        self.assertEqual(asks(*told, statements=[1]), [3])

    def test_3_is_told_before_0(self):
        told = [rule(USUAL, says=1), rule(USUAL, says=-1), rule(USUAL, says=2, conditions=[1, -1])]
        self.assertEqual(asks(*told, statements=[1, 2]), [3, 0])

    def test_no_3_with_a_guard_alone(self):
        told = [rule(USUAL, says=1), rule(GUARD, says=-1), rule(USUAL, says=-1, conditions=[5])]
        self.assertEqual(asks(*told, statements=[1, -1]), [0, 0])

    def test_a_condition_and_its_opposite(self):
        self.assertEqual(asks(*proving(1, -1), rule(USUAL, says=2, conditions=[1, -1]), statements=[2]), [1])


class InForce(unittest.TestCase):
    def test_rules_of_other_days_do_not_count(self):
        told = [rule(USUAL, says=1, start=10, end=20), rule(USUAL, says=-1, start=15, end=0)]
        found = [answer[0] for answer in answered(*told, *[ask(day, 1) for day in (9, 10, 14, 15, 19, 20, 60000)])[2:]]
        self.assertEqual(found, [0, 1, 1, 3, 3, 2, 2])

    def test_strict_rules_of_other_days_do_not_count(self):
        told = [*proving(1), rule(STRICT, says=2, start=5, end=6, conditions=[1])]
        self.assertEqual([asks(*told, statements=[2], day=day) for day in (4, 5, 6)], [[0], [1], [0]])

    def test_why_by_the_rules_of_that_day(self):
        told = [rule(USUAL, says=1, start=0, end=5), rule(USUAL, 1, says=1, start=5), rule(GUARD, says=-1, start=3),
                rule(GUARD, says=-1, start=7, end=8, conditions=[9]), first(0, 2)]
        found = answered(*told, why(2, 1), why(3, 1), why(5, 1), why(7, 1), why(8, 1))[5:]
        self.assertEqual(found, [[2, 0, 0], [2, 0, 1, 2, 1, TOLD], [2, 1, 1, 2, 1, RANK],
                                 [2, 1, 2, 2, 1, RANK, 3, 1, RANK], [2, 1, 1, 2, 1, RANK]])

    def test_a_date_may_lie_on_any_day(self):
        told = [rule(USUAL, date=99999, says=1, end=5), rule(USUAL, date=99998, says=-1, end=5)]
        self.assertEqual(last_answer(*told, why(0, 1)), [2, 0, 1, 1, 1, DATE])

    def test_special_by_the_strict_rules_of_that_day(self):
        told = [*proving(1, 2), rule(USUAL, says=3, conditions=[2]), rule(USUAL, says=-3, conditions=[1]),
                rule(STRICT, says=1, start=5, end=9, conditions=[2])]
        self.assertEqual([asks(*told, statements=[3], day=day) for day in (4, 5, 8, 9)], [[3], [1], [1], [3]])


class Before(unittest.TestCase):
    """Rule 0 says 1, rule 1 says -1; both apply."""

    def between(self, one, other, *told):
        """How 1 is asked, and by what the one that's shown goes before the other."""
        rules = [rule(USUAL, says=1, **one), rule(USUAL, says=-1, **other)]
        found = answered(*proving(4, 5), *rules, *told, ask(0, 1), why(0, 1), why(0, -1))[-3:]
        if found[0] == [1]:
            self.assertEqual(found[1][:5], [2, 0, 1, 1, 1])
            return (1, found[1][5])
        if found[0] == [2]:
            self.assertEqual(found[2][:5], [2, 1, 1, 0, 1])
            return (2, found[2][5])
        self.assertEqual(found[1:], [[-6], [-6]])
        return (found[0][0], None)

    def test_rank(self):
        self.assertEqual(self.between({"rank": 3}, {"rank": 2}), (1, RANK))
        self.assertEqual(self.between({"rank": 2}, {"rank": 3}), (2, RANK))
        self.assertEqual(self.between({"rank": 3}, {"rank": 3}), (3, None))

    def test_special(self):
        self.assertEqual(self.between({"conditions": [4]}, {}), (1, SPECIAL))
        self.assertEqual(self.between({}, {"conditions": [4]}), (2, SPECIAL))
        self.assertEqual(self.between({"conditions": [4]}, {"conditions": [4]}), (3, None))
        self.assertEqual(self.between({"conditions": [4]}, {"conditions": [5]}), (3, None))
        self.assertEqual(self.between({"conditions": [4, 5]}, {"conditions": [5]}), (1, SPECIAL))
        self.assertEqual(self.between({"conditions": [4, 5]}, {"conditions": [5, 4]}), (3, None))

    def test_special_by_strict_rules(self):
        one, other = {"conditions": [4]}, {"conditions": [5]}
        self.assertEqual(self.between(one, other, rule(STRICT, says=5, conditions=[4])), (1, SPECIAL))
        self.assertEqual(self.between(one, other, rule(STRICT, says=4, conditions=[5])), (2, SPECIAL))
        self.assertEqual(self.between(one, other, rule(STRICT, says=5, conditions=[4]),
                                      rule(STRICT, says=4, conditions=[5])), (3, None))
        self.assertEqual(self.between(one, other, rule(STRICT, says=6, conditions=[4]),
                                      rule(STRICT, says=5, conditions=[6])), (1, SPECIAL))
        self.assertEqual(self.between(one, other, rule(USUAL, says=5, conditions=[4])), (3, None))

    def test_special_from_its_own_conditions_alone(self):
        # That 5 is a fact doesn't make it follow from 4.
        self.assertEqual(self.between({"conditions": [4]}, {"conditions": [5, 4]}), (2, SPECIAL))
        # By a strict rule without conditions 5 follows from whatever there is.
        self.assertEqual(self.between({"conditions": [4]}, {"conditions": [5]}, rule(STRICT, says=5)), (1, SPECIAL))
        self.assertEqual(self.between({}, {"conditions": [5]}, rule(STRICT, says=5)), (3, None))

    def test_date(self):
        self.assertEqual(self.between({"date": 8}, {"date": 7}), (1, DATE))
        self.assertEqual(self.between({"date": 0}, {"date": 99999}), (2, DATE))
        self.assertEqual(self.between({"date": 7}, {"date": 7}), (3, None))

    def test_told(self):
        worse = {"rank": 1, "date": 1}
        better = {"rank": 2, "date": 2, "conditions": [4]}
        self.assertEqual(self.between(worse, better, first(0, 1)), (1, TOLD))
        self.assertEqual(self.between(better, worse, first(0, 1)), (1, TOLD))
        self.assertEqual(self.between(better, worse, first(1, 0)), (2, TOLD))
        self.assertEqual(self.between({}, {}, first(1, 0)), (2, TOLD))

    def test_told_is_of_the_two_alone(self):
        told = [rule(USUAL, says=7), first(0, 2), first(2, 1)]
        self.assertEqual(self.between({}, {}, *told), (3, None))

    def test_the_first_of_the_three_that_tells_them_apart(self):
        ahead = [{"rank": 1}, {"conditions": [4]}, {"date": 1}]
        for three in itertools.permutations(range(3)):
            for signs in itertools.product((1, 0, -1), repeat=3):
                one, other = {}, {}
                for sign, gain in zip(signs, ahead):
                    {1: one, -1: other, 0: {}}[sign].update(gain)
                deciding = [kind for kind in three if signs[kind] != 0]
                due = (3, None) if not deciding else (1 if signs[deciding[0]] == 1 else 2, deciding[0] + 2)
                with self.subTest(three=three, signs=signs):
                    self.assertEqual(self.between(one, other, order(*three)), due)
                    if three == (0, 1, 2):
                        self.assertEqual(self.between(one, other), due)

    def test_the_order_told_last(self):
        one, other = {"rank": 1}, {"date": 1}
        self.assertEqual(self.between(one, other, order(2, 1, 0), order(0, 2, 1)), (1, RANK))
        self.assertEqual(self.between(one, other, order(0, 1, 2), order(2, 1, 0), order(2, 2, 0)), (2, DATE))

    def test_strict_rules_and_guards_are_compared_alike(self):
        told = [rule(USUAL, says=2), rule(STRICT, says=1, conditions=[2]), rule(USUAL, 1, says=-1)]
        self.assertEqual(asks(*told, statements=[1]), [2])
        told = [rule(USUAL, 1, says=1), rule(GUARD, 2, says=-1)]
        self.assertEqual(asks(*told, statements=[1, -1]), [0, 0])
        told = [rule(USUAL, 2, says=1), rule(GUARD, 1, says=-1)]
        self.assertEqual(asks(*told, statements=[1, -1]), [1, 2])


class Why(unittest.TestCase):
    def test_each_rule_against_in_order(self):
        told = [*proving(5), rule(USUAL, says=-1, conditions=[7]), rule(USUAL, 3, 4, says=1, conditions=[5]),
                rule(GUARD, 2, says=-1), rule(STRICT, 3, 4, says=-1, conditions=[5, 8, 9]),
                rule(USUAL, 3, 3, says=-1, conditions=[5]), rule(USUAL, 3, 4, says=-1), rule(USUAL, 9, says=-1),
                rule(USUAL, says=2), first(1, 6)]
        self.assertEqual(last_answer(*told, why(0, 1)),
                         [2, 1, 6, 0, 0, 7, 2, 1, RANK, 3, 0, 8, 4, 1, DATE, 5, 1, SPECIAL, 6, 1, TOLD])

    def test_the_opposite_of_a_condition_counts_as_itself(self):
        told = [*proving(-7), rule(USUAL, says=-1), rule(USUAL, says=1, conditions=[3, 7])]
        self.assertEqual(last_answer(*told, why(0, -1)), [2, 0, 1, 1, 0, 3])
        told = [*proving(7), rule(USUAL, says=-1), rule(USUAL, says=1, conditions=[7, -7])]
        self.assertEqual(last_answer(*told, why(0, -1)), [2, 0, 1, 1, 0, -7])

    def test_a_condition_that_fails_is_told_though_the_rule_goes_before(self):
        told = [rule(USUAL, says=2), rule(USUAL, 5, says=1, conditions=[2]), rule(USUAL, says=-1, conditions=[3])]
        self.assertEqual(last_answer(*told, why(0, 1)), [2, 1, 1, 2, 0, 3])

    def test_what_fails_in_that_round_or_later_had_not_been_shown_then(self):
        # In the first round nothing has been shown, so it's by rank.
        told = [rule(USUAL, 5, says=1), rule(USUAL, says=-1, conditions=[3])]
        self.assertEqual(last_answer(*told, why(0, 1)), [2, 0, 1, 1, 1, RANK])
        # 3 fails in the second round, 1 is shown in the second.
        told = [rule(USUAL, says=2), rule(USUAL, 5, says=1, conditions=[2]), rule(USUAL, says=-1, conditions=[3]),
                rule(USUAL, says=3, conditions=[4])]
        self.assertEqual(last_answer(*told, why(0, 1)), [2, 1, 1, 2, 1, RANK])
        # 3 fails in the second round, 1 is shown in the third.
        told = [rule(USUAL, says=2), rule(USUAL, 5, says=1, conditions=[6]), rule(USUAL, says=-1, conditions=[3]),
                rule(USUAL, says=3, conditions=[4]), rule(USUAL, says=6, conditions=[2])]
        self.assertEqual(last_answer(*told, why(0, 1)), [2, 1, 1, 2, 0, 3])

    def test_the_first_condition_that_had_been_shown_then(self):
        # 3 fails in the second round, 4 in the first; 1 is shown in the second, when only 4 had failed.
        told = [rule(USUAL, says=2), rule(USUAL, says=1, conditions=[2]), rule(USUAL, says=-1, conditions=[3, 4]),
                rule(USUAL, says=3, conditions=[4])]
        self.assertEqual(last_answer(*told, why(0, 1)), [2, 1, 1, 2, 0, 4])

    def test_the_first_rule_that_shows_it_in_the_first_round(self):
        # Rule 0 would show it too, but a round later.
        told = [rule(USUAL, says=1, conditions=[2]), rule(USUAL, says=1), rule(USUAL, says=1), rule(USUAL, says=2)]
        self.assertEqual(last_answer(*told, why(0, 1)), [2, 1, 0])
        # Rule 0 applies in the first round too, but doesn't go before the rule against it.
        told = [rule(USUAL, says=1), rule(USUAL, 2, says=1), rule(USUAL, 1, says=-1)]
        self.assertEqual(last_answer(*told, why(0, 1)), [2, 1, 1, 2, 1, RANK])

    def test_it_is_told_by_what_that_rule_goes_before(self):
        told = [rule(USUAL, 2, says=1), rule(USUAL, says=1), rule(USUAL, says=-1), first(1, 2)]
        self.assertEqual(last_answer(*told, why(0, 1)), [2, 0, 1, 2, 1, RANK])

    def test_shown_a_round_later_when_the_rule_against_is_out(self):
        told = [rule(USUAL, says=1), rule(USUAL, says=-1, conditions=[2])]
        self.assertEqual(last_answer(*told, why(0, 1)), [2, 0, 1, 1, 0, 2])

    def test_a_strict_rule_that_stands_for_it_by_what_usually_holds(self):
        told = [rule(USUAL, says=2), rule(STRICT, says=1, conditions=[2]), rule(USUAL, says=-1, conditions=[6])]
        self.assertEqual(last_answer(*told, why(0, 1)), [2, 1, 1, 2, 0, 6])

    def test_a_guard_is_no_reason(self):
        self.assertEqual(last_answer(rule(GUARD, says=1), rule(USUAL, says=1), why(0, 1)), [2, 1, 0])

    def test_only_what_is_asked_1_or_5(self):
        told = [*proving(1, 6, -6), rule(USUAL, says=2), rule(USUAL, says=3), rule(USUAL, says=-3),
                rule(USUAL, says=4, conditions=[4])]
        found = answered(*told, *[why(0, k) for k in (1, -1, 2, -2, 3, -3, 4, -4, 5, -5, 6, -6)])[len(told):]
        self.assertEqual(found, [[0, 0], [-6], [2, 0, 0]] + [[-6]] * 7 + [[0, 1], [0, 2]])

    def test_as_many_against_as_there_is_room_for(self):
        told = [rule(USUAL, 9, says=1)] + [rule(USUAL, says=-1)] * 11
        due = [2, 0, 11] + [number for other in range(1, 12) for number in (other, 1, RANK)]
        self.assertEqual(last_answer(*told, why(0, 1)), due)


class ManyRounds(unittest.TestCase):
    def test_a_chain_of_12_rules(self):
        told = [rule(USUAL, says=k + 1, conditions=[k] if k else []) for k in reversed(range(12))]
        self.assertEqual(asks(*told, statements=range(1, 13)), [1] * 12)

    def test_each_waits_for_the_one_before(self):
        # The rule against each needs that the one before holds, and goes before by its condition.
        told = []
        for k in range(1, 6):
            told.append(rule(USUAL, says=k))
            told.append(rule(USUAL, says=-k, conditions=[k - 1] if k > 1 else [20]))
        self.assertEqual(asks(*told, statements=range(1, 6)), [1, 2, 1, 2, 1])


if __name__ == "__main__":
    unittest.main()

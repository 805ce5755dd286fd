"""answers: how calls are read and answered, what begins does, and what a refusal leaves as it was."""

import unittest

from casedecided.laws import answers
from helper import (BOTTOM, TOP, Chooser, amount, answered, ask, begins, bring, case, closed, define, differs,
                    easters, event, facts, first, joined, last_answer, name, numbers, order, owed, part, rate, remedy,
                    rule, scale, take, turns, way, week, why, yearly)

ONE_OF_EACH = [begins(), part(0, [3, 4]), define(1, 5, 10, 20, [6, 7]), name(2, 1, [8]), order(2, 0, 1),
               rule(0, 9, 99999, -3, 0, 60000, [1, -2]), rule(), first(1, 0), week(5, 6), yearly(2, 29), easters(-2),
               closed(60000), way(1, 3, 2), scale(1, 3, 100, 5, 50, [(0, 1, 2), (9, 3, 4)]), rate(7, 1, 20),
               amount(80), event(9), bring(1, 0, [8]), bring(0, 1, [7]), take(1), remedy(1, 0, 0, 0, 0, 4, 999)]

QUESTIONS = [facts(12), ask(12, 1), why(12, 1), case(12), owed(12), differs(0, 60000), turns(0, -3)]

# For each kind: the call that fills it, and how many times it is let through.
ROOMS = [(part(), 14), (define(), 20), (rule(), 12), (yearly(1, 1), 40), (easters(0), 40), (closed(1), 40), (way(), 8),
         (scale(), 6), (amount(), 10), (event(), 10), (bring(), 12)]

REFUSED = [part(1), part(0, [0]), define(9), define(word=0), define(start=2, end=2), name(0), name(1, 9), order(0, 0, 1),
           rule(rank=10), rule(says=0), first(7, 8), week(6, 5), yearly(2, 30), easters(61), closed(60001),
           way(0, 4, 0), scale(unit=0), scale(brackets=[]), rate(60001), rate(0, 1, 0), amount(1000000001),
           event(60001), bring(1), bring(words=[]), take(0), remedy(0), remedy(), facts(60001), ask(0, 0), why(0, 21),
           why(0, 1), case(60001), owed(60001), differs(0, 60001), turns(60001, 1), turns(0, 1)]


class Interface(unittest.TestCase):
    def test_a_count_ahead_of_each_answer(self):
        found = answers([0, 1, 0, 0, 1, 5, 0, 4, 1, 0, 2])
        self.assertEqual(found, [1, 0, 1, 1, 1, -2, 1, 0])

    def test_one_of_each(self):
        self.assertEqual(numbers(*ONE_OF_EACH),
                         [0, 1, 0, 1, 0, 0, 1, 0, 2, 1, 1, 1, 0, 0, 1, 0, 0, 0, 1, 1, 0])

    def test_one_of_each_question(self):
        found = answered(*ONE_OF_EACH, *QUESTIONS)[len(ONE_OF_EACH):]
        # 200 weeks from day 9, a Monday, on have 1000 days from Monday to Friday, of which the Good Fridays
        # of 2000 to 2003 and February 29, 2000 rest; so 4 of the week behind them are needed.
        self.assertEqual(found, [[1, -2], [1], [2, 1, 0], [1, 0, 50, 3, 146, 1, 1412], [0, 7303, 146], [1, 3],
                                 [60000, 0]])

    def test_empty_rows(self):
        calls = [part(0, []), define(body=[]), name(words=[]), rule(conditions=[]), week(), scale(brackets=[]),
                 bring(words=[])]
        self.assertEqual(numbers(*calls, begins()), [1, -1, -1, 0, 0, -1, -1, 0])

    def test_full_rows(self):
        calls = [part(0, [1] * 28), define(body=[1] * 25), name(words=[1] * 27), rule(conditions=[1] * 23),
                 week(*[1] * 29), scale(brackets=[(k, 1, 1) for k in range(8)]), bring(words=[1] * 27)]
        self.assertEqual(numbers(*calls, begins()), [-1, -1, -1, -1, -1, 0, -1, 0])

    def test_the_greatest_and_least_numbers(self):
        calls = [part(TOP, [TOP]), define(TOP, TOP, TOP, TOP, [TOP]), name(TOP, TOP, [TOP]),
                 rule(2, TOP, TOP, TOP, TOP, TOP, [TOP]), rule(2, TOP, TOP, BOTTOM, TOP, TOP, [BOTTOM]),
                 first(TOP, TOP), week(TOP), yearly(TOP, TOP), easters(TOP), easters(BOTTOM), closed(TOP),
                 way(1, TOP, TOP), scale(1, 3, TOP, TOP, TOP, [(TOP, TOP, TOP)]), rate(TOP, TOP, TOP), amount(TOP),
                 event(TOP), bring(TOP, 1, [TOP]), take(TOP), remedy(TOP, TOP, TOP, TOP, TOP, TOP, TOP), facts(TOP),
                 ask(TOP, TOP), ask(TOP, BOTTOM), why(TOP, TOP), why(TOP, BOTTOM), case(TOP), owed(TOP),
                 differs(TOP, TOP), turns(TOP, TOP), turns(TOP, BOTTOM)]
        self.assertEqual(numbers(*calls), [-2, -2, -1, -1, -1, -2] + [-1] * 11 + [-2] + [-1] * 11)

    def test_80_calls(self):
        self.assertEqual(numbers(*[week(6)] * 80), [1] * 80)

    def test_whole_numbers_only(self):
        found = answers(joined(ONE_OF_EACH + QUESTIONS + REFUSED))
        self.assertIs(type(found), list)
        self.assertEqual({type(number) for number in found}, {int})

    def test_the_list_is_not_changed(self):
        for seed in range(50):
            calls = joined(Chooser(seed).calls(60))
            before = list(calls)
            answers(calls)
            self.assertEqual(calls, before)

    def test_nothing_is_kept(self):
        for seed in range(50):
            calls = joined(Chooser(seed).calls(60))
            found = answers(calls)
            answers(joined(ONE_OF_EACH + QUESTIONS))
            self.assertEqual(answers(calls), found)

    def test_what_is_given_back_is_the_callers_own(self):
        calls = joined(ONE_OF_EACH + QUESTIONS)
        found = answers(calls)
        due = list(found)
        found.clear()
        self.assertEqual(answers(calls), due)


class Begins(unittest.TestCase):
    def test_answers_0(self):
        self.assertEqual(answered(begins()), [[0]])

    def test_each_kind_is_empty_again(self):
        for call, room in ROOMS:
            with self.subTest(call=call):
                found = numbers(*[call] * room, begins(), *[call] * min(room + 1, 79 - room))
                self.assertEqual(found[room + 1:room + 2], found[:1])
                self.assertEqual(found[room + 1:][:room], found[:room][:79 - room])

    def test_parts_are_gone(self):
        self.assertEqual(numbers(part(), begins(), part(1), define(1), name(1, 1)), [1, 0, -2, -2, -1])

    def test_names_are_gone(self):
        self.assertEqual(numbers(name(1), name(2), begins(), name(1)), [1, 2, 0, 1])

    def test_rules_and_their_orders_are_gone(self):
        self.assertEqual(numbers(rule(), rule(), first(0, 1), begins(), first(0, 1), rule(), rule(), first(1, 0)),
                         [0, 1, 0, 0, -2, 0, 1, 0])

    def test_the_order_and_the_days_of_rest_are_gone(self):
        # The end is day 113, Easter of 2000.
        deadline = [name(), bring(), scale(), amount(), event(112), way(0, 1, 0), remedy(), case()]
        self.assertEqual(last_answer(*deadline)[-2:], [1, 113])
        for call in (week(6), yearly(4, 23), easters(0), closed(113)):
            self.assertEqual(last_answer(call, *deadline)[-2:], [1, 114])
            self.assertEqual(last_answer(call, begins(), *deadline)[-2:], [1, 113])
        rules = [rule(rank=1, says=1), rule(date=1, says=-1), ask()]
        self.assertEqual(last_answer(order(2, 1, 0), *rules), [2])
        self.assertEqual(last_answer(order(2, 1, 0), begins(), *rules), [1])

    def test_rates_are_gone(self):
        self.assertEqual(numbers(rate(5), begins(), rate(5), rate(5)), [1, 0, 1, -3])

    def test_proofs_and_remedies_are_gone(self):
        told = [name(), bring(), scale(), amount(), event(), way(), remedy()]
        found = answered(*told, begins(), facts(), case(), take(0), remedy(), *told, facts(), case())[8:]
        self.assertEqual(found, [[0], [0], [-2], [-2], [1], [0], [0], [0], [0], [0], [0], [1, 1],
                                 [1, 0, 500, 0, 1, 1, 1]])

    def test_in_the_middle_of_any_list(self):
        for seed in range(100):
            chooser = Chooser(seed)
            ahead = chooser.calls(40)
            behind = chooser.calls(39)
            found = answered(*ahead, begins(), *behind)
            self.assertEqual(found, answered(*ahead) + [[0]] + answered(*behind))


class Refusals(unittest.TestCase):
    def test_each_by_itself(self):
        due = [-2, -1, -2, -1, -1, -1, -1, -1, -1, -1, -2] + [-1] * 13 + [-2, -1, -2, -1, -1, -1, -6, -1, -1, -1, -1, -6]
        self.assertEqual(numbers(*REFUSED), due)

    def test_no_number_is_used_up(self):
        told = ONE_OF_EACH[1:] + QUESTIONS
        self.assertEqual(answered(*REFUSED, *told)[len(REFUSED):], answered(*told))

    def test_full_stays_full(self):
        for call, room in ROOMS:
            with self.subTest(call=call):
                self.assertEqual(numbers(*[call] * room, call, call)[room:], [-5, -5])

    def test_full_of_one_kind_leaves_room_for_others(self):
        for call, room in ROOMS:
            for other, other_room in ROOMS:
                if other != call:
                    with self.subTest(call=call, other=other):
                        found = numbers(*[call] * (room + 1), other)
                        self.assertEqual(found[room:], [-5] + numbers(other))

    def test_as_if_the_refused_calls_had_not_been_there(self):
        for seed in range(200):
            calls = Chooser(seed).calls(80)
            found = answered(*calls)
            kept = [place for place, answer in enumerate(found) if answer[0] >= 0]
            self.assertEqual(answered(*[calls[place] for place in kept]), [found[place] for place in kept])


class UnknownCalls(unittest.TestCase):
    def test_they_are_not_answered(self):
        for number in (-1, 26, TOP):
            with self.subTest(number=number):
                with self.assertRaises(ValueError):
                    answers([0, number, 0, 0, 0, 0])


if __name__ == "__main__":
    unittest.main()

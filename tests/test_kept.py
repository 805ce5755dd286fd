"""What is told is kept, for what will be asked of it, and a refusal leaves what was kept."""

import copy
import unittest

from casedecided.forms import read_call
from casedecided.house import House
from casedecided.laws import look_up, tell
from helper import (Chooser, amount, bring, closed, define, easters, event, first, name, order, part, rate, remedy,
                    rule, scale, take, way, week, yearly)


def contents(house):
    """A copy of all that a house keeps, in plain values."""
    return copy.deepcopy({key: [vars(thing) if hasattr(thing, "__dict__") else thing for thing in things]
                          for key, things in vars(house).items()})


class Kept(unittest.TestCase):
    def setUp(self):
        self.house = House()

    def tell(self, *calls):
        for call in calls:
            read = read_call(call, 0)
            if read.number < 19:
                self.answer = tell(self.house, read.number, read.numbers, read.row)
            else:
                self.asked = look_up(self.house, read.number, read.numbers)

    def kept(self, key):
        return contents(self.house)[key]

    def test_at_the_beginning(self):
        kept = contents(self.house)
        self.assertEqual(kept.pop("parts"), [None])
        self.assertEqual(kept.pop("order"), [0, 1, 2])
        self.assertEqual(set(map(len, kept.values())), {0})

    def test_parts(self):
        self.tell(part(0, [1]), part(5), part(1, [0]), part(1))
        self.assertEqual(self.kept("parts"), [None, 0, 1])

    def test_definitions(self):
        self.tell(define(0, 5, 1, 2, [3, 4]), define(0, 5, 2, 2, [3]), part(), define(1, 6, 60000, 0, [7]))
        self.assertEqual(self.kept("definitions"), [
            {"part": 0, "word": 5, "start": 1, "end": 2, "body": [3, 4]},
            {"part": 1, "word": 6, "start": 60000, "end": 0, "body": [7]},
        ])

    def test_names_stay_in_the_order_told(self):
        self.tell(part(), name(9, 0, [1, 2]), name(9, 0, [3]), name(4, 1, [1, 2]))
        self.assertEqual(self.kept("names"), [
            {"statement": 9, "part": 0, "words": [1, 2]},
            {"statement": 4, "part": 1, "words": [1, 2]},
        ])

    def test_order(self):
        self.tell(order(2, 0, 1), order(2, 2, 1))
        self.assertEqual(self.kept("order"), [2, 0, 1])

    def test_rules(self):
        self.tell(rule(2, 3, 4, -5, 6, 7, [8, -9]), rule(2, 10, 4, -5, 6, 7, [8, -9]), rule(0, 1, 99999, 2, 5, 0, []))
        self.assertEqual(self.kept("rules"), [
            {"kind": 2, "rank": 3, "date": 4, "says": -5, "start": 6, "end": 7, "conditions": [8, -9]},
            {"kind": 0, "rank": 1, "date": 99999, "says": 2, "start": 5, "end": 0, "conditions": []},
        ])

    def test_firsts(self):
        self.tell(rule(), rule(), rule(), first(2, 0), first(0, 2), first(2, 0), first(1, 1), first(0, 1), first(0, 3))
        self.assertEqual(self.kept("firsts"), [(2, 0), (0, 1)])

    def test_week_is_told_anew(self):
        self.tell(week(5, 6), week(6, 5))
        self.assertEqual(self.kept("week"), [5, 6])
        self.tell(week(0))
        self.assertEqual(self.kept("week"), [0])
        self.tell(week())
        self.assertEqual(self.kept("week"), [])

    def test_days_of_rest(self):
        self.tell(yearly(12, 25), yearly(25, 12), easters(-2), easters(-61), closed(7), closed(60001))
        self.assertEqual(self.kept("yearly"), [(12, 25)])
        self.assertEqual(self.kept("easters"), [-2])
        self.assertEqual(self.kept("closed"), [7])

    def test_ways(self):
        self.tell(way(1, 3, 2), way(1, 4, 2), way(0, 1, 0))
        self.assertEqual(self.kept("ways"), [
            {"counts": 1, "rest": 3, "months": 2},
            {"counts": 0, "rest": 1, "months": 0},
        ])

    def test_scales(self):
        self.tell(scale(1, 2, 3, 4, 5, [(0, 6, 7), (8, 9, 10)]), scale(1, 2, 0, 4, 5, [(0, 6, 7)]))
        self.assertEqual(self.kept("scales"), [
            {"slices": 1, "rounding": 2, "unit": 3, "least": 4, "most": 5, "brackets": [(0, 6, 7), (8, 9, 10)]},
        ])

    def test_rates(self):
        self.tell(rate(5, 2, 4), rate(5, 1, 1), rate(6, 10001, 1), rate(9, 0, 7))
        self.assertEqual(self.kept("rates"), [(5, 2, 4), (9, 0, 7)])

    def test_amounts_and_events(self):
        self.tell(amount(7), event(8), amount(1000000001), event(60001), amount(0), event(60000))
        self.assertEqual(self.kept("amounts"), [7, 0])
        self.assertEqual(self.kept("events"), [8, 60000])

    def test_proofs(self):
        self.tell(bring(0, 1, [3, 4]), bring(1, 1, [3]), bring(0, 0, [5]), take(2), bring(0, 0, [6]), take(1))
        self.assertEqual(self.kept("proofs"), [
            {"part": 0, "so": 1, "words": [3, 4]},
            {"part": 0, "so": 0, "words": [6]},
        ])

    def test_remedies(self):
        self.tell(scale(), amount(), amount(), event(), event(), event(), way(), remedy(9, 0, 1, 2, 0, 3, 99),
                  remedy(9, 0, 1, 2, 0, 3, 100), remedy(9, 1, 1, 2, 0, 3, 99))
        self.assertEqual(self.kept("remedies"), [
            {"statement": 9, "scale": 0, "amount": 1, "event": 2, "way": 0, "unit": 3, "many": 99},
        ])

    def test_what_is_asked_changes_nothing(self):
        for seed in range(60):
            chooser = Chooser(seed)
            self.house = House()
            self.tell(*[chooser.call() for place in range(60)])
            before = contents(self.house)
            self.tell(*[chooser.question() for place in range(20)])
            self.assertEqual(contents(self.house), before)

    def test_a_refusal_changes_nothing(self):
        refused = 0
        for seed in range(100):
            self.house = House()
            chooser = Chooser(seed)
            for place in range(80):
                before = contents(self.house)
                self.tell(chooser.call())
                if self.answer < 0:
                    refused = refused + 1
                    self.assertEqual(contents(self.house), before)
        self.assertGreater(refused, 1000)

    def test_nothing_kept_is_the_list_that_was_handed_in(self):
        for call, key in [(define(body=[3]), "definitions"), (name(words=[3]), "names"), (week(3), "week"),
                          (rule(conditions=[3]), "rules"), (bring(words=[3]), "proofs")]:
            with self.subTest(key=key):
                self.tell(call)
                before = contents(self.house)
                call[-1] = 4
                self.assertEqual(contents(self.house), before)


if __name__ == "__main__":
    unittest.main()

"""bring, take, facts: proofs, words spelled out, and the facts of a day."""

import unittest

from helper import TOP, answered, bring, define, facts, last, last_answer, name, numbers, part, take, why


class Bring(unittest.TestCase):
    def test_numbers_rise_from_0(self):
        self.assertEqual(numbers(bring(), bring(so=0), bring()), [0, 1, 2])

    def test_missing_part_is_wrong_here(self):
        self.assertEqual(numbers(bring(1), bring(TOP), part(), bring(2), bring(1)), [-1, -1, 1, -1, 0])

    def test_words_of_1_and_of_20(self):
        self.assertEqual(numbers(bring(words=[99999]), bring(words=[1] * 20)), [0, 1])

    def test_wrong_words(self):
        for words in ([], [0], [100000], [TOP], [1, 0], [1] * 21, [1] * 27, [1] * 19 + [0]):
            with self.subTest(words=words):
                self.assertEqual(numbers(bring(words=words), bring()), [-1, 0])

    def test_there_are_12(self):
        self.assertEqual(numbers(*[bring()] * 14), [*range(12), -5, -5])

    def test_wrong_is_told_before_full(self):
        for call in (bring(1), bring(words=[]), bring(words=[0])):
            self.assertEqual(last(*[bring()] * 12, call), -1)


class Take(unittest.TestCase):
    def test_how_many_are_left(self):
        self.assertEqual(numbers(bring(), bring(), bring(), take(1), take(0), take(0))[3:], [2, 1, 0])

    def test_no_such_proof(self):
        self.assertEqual(numbers(take(0), bring(), take(1), take(TOP), take(0), take(0)), [-2, 0, -2, -2, 0, -2])

    def test_those_behind_get_lesser_numbers(self):
        told = [name(1, 0, [1]), name(2, 0, [2]), name(3, 0, [3]), bring(words=[1]), bring(words=[2]), bring(words=[3])]
        self.assertEqual(answered(*told, why(0, 1), why(0, 2), why(0, 3))[6:], [[0, 0], [0, 1], [0, 2]])
        found = answered(*told, take(1), why(0, 1), why(0, 2), why(0, 3), facts(), take(1), facts())
        self.assertEqual(found[6:], [[2], [0, 0], [-6], [0, 1], [2, 1, 3], [1], [1, 1]])

    def test_there_is_room_again(self):
        self.assertEqual(numbers(*[bring()] * 12, take(5), bring(), bring())[12:], [11, 11, -5])


class Facts(unittest.TestCase):
    def test_none(self):
        self.assertEqual(answered(facts(), name(), facts(), bring(words=[2]), facts(60000)),
                         [[0], [1], [0], [0], [0]])

    def test_days_asked_about(self):
        self.assertEqual(answered(facts(60000), facts(60001), facts(TOP)), [[0], [-1], [-1]])

    def test_so_and_not_so(self):
        told = [name(4, 0, [1, 2]), name(7, 0, [3])]
        self.assertEqual(last_answer(*told, bring(0, 1, [1, 2]), bring(0, 0, [3]), facts()), [2, 4, -7])

    def test_a_statement_and_its_opposite(self):
        self.assertEqual(last_answer(name(4), bring(so=0), bring(so=1), facts()), [2, -4, 4])

    def test_just_those_words_in_their_order(self):
        for words in ([1], [2, 1], [1, 2, 3], [1, 1, 2], [2], [1, 3]):
            with self.subTest(words=words):
                self.assertEqual(last_answer(name(1, 0, [1, 2]), bring(0, 1, words), facts()), [0])

    def test_proof_by_proof_then_by_the_names_as_told(self):
        told = [name(9, 0, [5]), name(2, 0, [6]), name(4, 0, [5])]
        self.assertEqual(last_answer(*told, bring(words=[6]), bring(words=[5]), facts()), [3, 2, 9, 4])
        self.assertEqual(last_answer(*told, bring(words=[5]), bring(words=[6]), facts()), [3, 9, 4, 2])

    def test_each_once(self):
        told = [name(9, 0, [5]), name(2, 0, [6])]
        found = last_answer(*told, bring(words=[5]), bring(words=[6]), bring(words=[5]), bring(0, 0, [5]), facts())
        self.assertEqual(found, [3, 9, 2, -9])

    def test_names_may_come_behind_proofs(self):
        self.assertEqual(last_answer(bring(words=[5]), facts(), name(3, 0, [5]), facts()), [1, 3])


class SpelledOut(unittest.TestCase):
    def proved(self, *told, day=0):
        return last_answer(*told, facts(day))[1:]

    def test_a_proof_in_other_words(self):
        self.assertEqual(self.proved(define(0, 5, body=[6, 7]), name(1, 0, [6, 7]), bring(0, 1, [5])), [1])
        self.assertEqual(self.proved(define(0, 5, body=[6, 7]), name(1, 0, [5]), bring(0, 1, [6, 7])), [1])

    def test_within_other_words(self):
        self.assertEqual(self.proved(define(0, 5, body=[6, 7]), name(1, 0, [1, 5, 2, 5]),
                                     bring(0, 1, [1, 6, 7, 2, 6, 7])), [1])

    def test_words_of_bodies_are_spelled_out_too(self):
        told = [define(0, 1, body=[2, 3]), define(0, 2, body=[3, 3]), define(0, 3, body=[4])]
        self.assertEqual(self.proved(*told, name(1, 0, [1]), bring(0, 1, [4, 4, 4])), [1])
        self.assertEqual(self.proved(*reversed(told), name(1, 0, [1]), bring(0, 1, [4, 4, 4])), [1])

    def test_in_force_from_up_to_not_with(self):
        told = [define(0, 5, 10, 20, [6]), name(1, 0, [6]), bring(0, 1, [5])]
        found = answered(*told, facts(9), facts(10), facts(19), facts(20))[3:]
        self.assertEqual(found, [[0], [1, 1], [1, 1], [0]])

    def test_without_end(self):
        told = [define(0, 5, 10, 0, [6]), name(1, 0, [6]), bring(0, 1, [5])]
        self.assertEqual(answered(*told, facts(9), facts(10), facts(60000))[3:], [[0], [1, 1], [1, 1]])

    def test_for_a_part_and_for_the_part_that_it_is_in(self):
        told = [part(0), part(1), part(0), define(0, 5, body=[6]), define(1, 5, body=[7]),
                name(1, 0, [6]), name(2, 0, [7]), name(3, 0, [5])]
        self.assertEqual(self.proved(*told, bring(0, 1, [5])), [1, 3])
        self.assertEqual(self.proved(*told, bring(1, 1, [5])), [2])
        self.assertEqual(self.proved(*told, bring(2, 1, [5])), [2])
        self.assertEqual(self.proved(*told, bring(3, 1, [5])), [1, 3])

    def test_a_part_within_says_nothing_of_the_whole(self):
        told = [part(0), define(1, 5, body=[6]), name(1, 0, [6])]
        self.assertEqual(self.proved(*told, bring(0, 1, [5])), [])
        self.assertEqual(self.proved(*told, bring(1, 1, [5])), [1])

    def test_the_parts_own_counts_though_the_wholes_came_later(self):
        told = [part(0), define(1, 5, 0, 0, [6]), define(0, 5, 9, 0, [7]), name(1, 0, [6])]
        self.assertEqual(self.proved(*told, bring(1, 1, [5]), day=20), [1])

    def test_out_of_force_at_the_part_it_is_the_wholes(self):
        told = [part(0), define(1, 5, 3, 9, [6]), define(0, 5, 0, 0, [7]), name(1, 0, [6]), name(2, 0, [7]),
                bring(1, 1, [5])]
        found = answered(*told, facts(2), facts(3), facts(8), facts(9))[6:]
        self.assertEqual(found, [[1, 2], [1, 1], [1, 1], [1, 2]])

    def test_that_which_came_into_force_last(self):
        told = [define(0, 5, 8, 20, [7]), define(0, 5, 2, 0, [6]), name(1, 0, [6]), name(2, 0, [7]), bring(0, 1, [5])]
        found = answered(*told, facts(7), facts(8), facts(19), facts(20))[5:]
        self.assertEqual(found, [[1, 1], [1, 2], [1, 2], [1, 1]])

    def test_of_such_the_one_told_last(self):
        told = [name(1, 0, [6]), name(2, 0, [7]), bring(0, 1, [5])]
        self.assertEqual(self.proved(define(0, 5, 2, 0, [7]), define(0, 5, 2, 9, [6]), *told, day=5), [1])
        self.assertEqual(self.proved(define(0, 5, 2, 9, [6]), define(0, 5, 2, 0, [7]), *told, day=5), [2])

    def test_a_body_is_spelled_out_at_the_part_of_its_definition(self):
        told = [part(0), define(0, 5, body=[8]), define(0, 8, body=[6]), define(1, 8, body=[7]),
                name(1, 0, [6]), name(2, 0, [7])]
        self.assertEqual(self.proved(*told, bring(1, 1, [5])), [1])
        self.assertEqual(self.proved(*told, bring(1, 1, [8])), [2])

    def test_a_body_of_a_part_within_sees_its_own_part(self):
        told = [part(0), part(1), define(1, 5, body=[8]), define(1, 8, body=[7]), define(0, 8, body=[6]),
                define(2, 8, body=[9]), name(1, 0, [6]), name(2, 0, [7]), name(3, 0, [9])]
        self.assertEqual(self.proved(*told, bring(2, 1, [5])), [2])

    def test_a_name_is_spelled_out_at_its_own_part(self):
        told = [part(0), define(1, 5, body=[6]), name(1, 1, [5]), name(2, 0, [5])]
        self.assertEqual(self.proved(*told, bring(0, 1, [6]), bring(0, 1, [5])), [1, 2])

    def test_the_same_word_at_two_parts_is_no_circle(self):
        told = [part(0), define(1, 5, body=[9]), define(0, 9, body=[5, 6]), name(1, 0, [5, 6])]
        self.assertEqual(self.proved(*told, bring(1, 1, [5])), [1])

    def test_circles_cannot_be_spelled_out(self):
        for told in ([define(0, 5, body=[5])], [define(0, 5, body=[6, 5])],
                     [define(0, 5, body=[6]), define(0, 6, body=[7]), define(0, 7, body=[5])],
                     [define(0, 5, body=[6]), define(0, 6, body=[6])]):
            with self.subTest(told=told):
                self.assertEqual(self.proved(*told, name(1, 0, [5]), bring(0, 1, [5])), [])
                self.assertEqual(self.proved(*told, name(1, 0, [1, 5]), bring(0, 1, [1, 5])), [])
                self.assertEqual(self.proved(*told, name(1, 0, [1]), bring(0, 1, [1])), [1])

    def test_what_cannot_be_spelled_out_is_not_alike(self):
        told = [define(0, 5, body=[5]), define(0, 6, body=[6])]
        self.assertEqual(self.proved(*told, name(1, 0, [5]), bring(0, 1, [6])), [])
        self.assertEqual(self.proved(*told, name(1, 0, [5]), name(2, 0, [8]), bring(0, 1, [5]), bring(0, 0, [8])), [-2])

    def test_a_circle_that_is_not_in_force(self):
        told = [define(0, 5, body=[6]), define(0, 6, 10, 20, body=[5]), name(1, 0, [6]), bring(0, 1, [5])]
        found = answered(*told, facts(9), facts(10), facts(19), facts(20))[4:]
        self.assertEqual(found, [[1, 1], [0], [0], [1, 1]])

    def test_a_circle_that_another_definition_covers(self):
        told = [define(0, 5, body=[5]), define(0, 5, 3, 0, body=[6]), name(1, 0, [6]), bring(0, 1, [5])]
        self.assertEqual(answered(*told, facts(2), facts(3))[4:], [[0], [1, 1]])

    def test_1000_words_and_1001(self):
        told = [define(0, 1, body=[2] * 20), define(0, 2, body=[3] * 10), define(0, 4, body=[1] * 5)]
        self.assertEqual(self.proved(*told, name(1, 0, [1] * 5), bring(0, 1, [4])), [1])
        self.assertEqual(self.proved(*told, name(1, 0, [1] * 5), bring(0, 1, [1] * 5)), [1])
        self.assertEqual(self.proved(*told, name(1, 0, [4, 3]), bring(0, 1, [4, 3])), [])
        self.assertEqual(self.proved(*told, name(1, 0, [3, 4]), bring(0, 1, [3, 1, 1, 1, 1, 1])), [])
        self.assertEqual(self.proved(*told, name(1, 0, [1, 1, 1, 1] + [2] * 16), bring(0, 1, [1] * 4 + [2] * 16)), [1])

    def test_a_body_of_1000_words_and_of_1001(self):
        told = [define(0, 1, body=[2] * 20), define(0, 2, body=[3] * 10)]
        for body, due in (([1] * 5, [1]), ([1] * 5 + [3], []), ([2] * 20, [1])):
            with self.subTest(body=body):
                self.assertEqual(self.proved(*told, define(0, 4, body=body), name(1, 0, [4]), bring(0, 1, [4])), due)

    def test_ever_longer_bodies(self):
        told = [define(0, k, body=[k + 1] * 20) for k in range(1, 21)]
        self.assertEqual(self.proved(*told, name(1, 0, [1]), bring(0, 1, [1])), [])
        self.assertEqual(self.proved(*told, name(1, 0, [20]), bring(0, 1, [21] * 20)), [1])
        self.assertEqual(self.proved(*told, name(1, 0, [19]), bring(0, 1, [20] * 20)), [1])

    def test_a_chain_of_20_definitions_and_15_parts(self):
        parts = [part(k) for k in range(14)]
        told = [define(max(0, 15 - k), k, body=[k + 1]) for k in range(1, 21)]
        self.assertEqual(self.proved(*parts, *told, name(1, 0, [21]), bring(14, 1, [1])), [1])
        self.assertEqual(self.proved(*parts, *told, name(1, 0, [21]), bring(13, 1, [1])), [])


if __name__ == "__main__":
    unittest.main()

"""part, define, name."""

import unittest

from helper import TOP, define, last, name, numbers, part

WRONG_WORDS = ([0], [100000], [TOP], [1, 0], [0, 1], [1, 100000, 1], list(range(0, 20)), [5] * 21)


class Part(unittest.TestCase):
    def test_numbers_rise_from_1(self):
        self.assertEqual(numbers(part(0, [1]), part(0, [1]), part(1, [2])), [1, 2, 3])

    def test_words_may_be_none_or_20(self):
        self.assertEqual(numbers(part(0, []), part(0, [7] * 20)), [1, 2])

    def test_least_and_greatest_word(self):
        self.assertEqual(numbers(part(0, [1, 99999])), [1])

    def test_wrong_words(self):
        for words in (*WRONG_WORDS, [5] * 28):
            with self.subTest(words=words):
                self.assertEqual(numbers(part(0, words), part()), [-1, 1])

    def test_no_such_part(self):
        self.assertEqual(numbers(part(1), part(TOP), part(0), part(2), part(1)), [-2, -2, 1, -2, 2])

    def test_missing_part_is_told_before_wrong_words(self):
        self.assertEqual(numbers(part(1, [0])), [-2])

    def test_there_are_15_with_the_whole(self):
        self.assertEqual(numbers(*[part(k) for k in range(14)]), list(range(1, 15)))
        self.assertEqual(numbers(*[part(0)] * 16), [*range(1, 15), -5, -5])

    def test_full_is_told_last(self):
        full = [part(0)] * 14
        self.assertEqual(last(*full, part(14)), -5)
        self.assertEqual(last(*full, part(15)), -2)
        self.assertEqual(last(*full, part(14, [0])), -1)
        self.assertEqual(last(*full, part(15, [0])), -2)


class Define(unittest.TestCase):
    def test_numbers_rise_from_0(self):
        self.assertEqual(numbers(define(), define(), define(word=9)), [0, 1, 2])

    def test_a_part_told_before(self):
        self.assertEqual(numbers(define(1), part(), define(1), define(2)), [-2, 1, 0, -2])

    def test_a_word_may_stand_in_its_own_body(self):
        self.assertEqual(numbers(define(word=3, body=[3, 3])), [0])

    def test_least_and_greatest_word(self):
        self.assertEqual(numbers(define(word=1), define(word=99999)), [0, 1])
        for word in (0, 100000, TOP):
            with self.subTest(word=word):
                self.assertEqual(numbers(define(word=word), define()), [-1, 0])

    def test_body_of_1_and_of_20(self):
        self.assertEqual(numbers(define(body=[99999]), define(body=[1] * 20)), [0, 1])

    def test_wrong_body(self):
        for body in (*WRONG_WORDS, [], [5] * 25):
            with self.subTest(body=body):
                self.assertEqual(numbers(define(body=body), define()), [-1, 0])

    def test_days_let_through(self):
        spans = [(0, 0), (0, 1), (60000, 0), (59999, 60000), (0, 60000), (7, 0)]
        self.assertEqual(numbers(*[define(start=start, end=end) for start, end in spans]), list(range(6)))

    def test_wrong_days(self):
        spans = [(60001, 0), (TOP, 0), (0, 60001), (0, TOP), (60000, 60001), (1, 1), (2, 1), (60000, 60000),
                 (60001, 60002), (60000, 1)]
        for start, end in spans:
            with self.subTest(start=start, end=end):
                self.assertEqual(numbers(define(start=start, end=end), define()), [-1, 0])

    def test_there_are_20(self):
        self.assertEqual(numbers(*[define()] * 22), [*range(20), -5, -5])

    def test_the_first_refusal_counts(self):
        full = [define()] * 20
        for wrong in ({"word": 0}, {"body": []}, {"start": 60001}, {"start": 3, "end": 3}):
            with self.subTest(wrong=wrong):
                self.assertEqual(numbers(define(1, **wrong)), [-2])
                self.assertEqual(last(*full, define(0, **wrong)), -1)
                self.assertEqual(last(*full, define(1, **wrong)), -2)
        self.assertEqual(last(*full, define(TOP)), -2)


class NameCall(unittest.TestCase):
    def test_how_many_are_named(self):
        self.assertEqual(numbers(name(7), name(3), name(20)), [1, 2, 3])

    def test_each_statement_can_be_named(self):
        self.assertEqual(numbers(*[name(k) for k in range(1, 21)]), list(range(1, 21)))

    def test_wrong_statement(self):
        for statement in (0, 21, TOP):
            with self.subTest(statement=statement):
                self.assertEqual(numbers(name(statement), name(1)), [-1, 1])

    def test_missing_part_is_wrong_here(self):
        self.assertEqual(numbers(name(1, 1), name(1, TOP), part(), name(1, 2), name(1, 1)), [-1, -1, 1, -1, 1])

    def test_words_of_1_and_of_20(self):
        self.assertEqual(numbers(name(1, 0, [99999]), name(2, 0, [1] * 20)), [1, 2])

    def test_wrong_words(self):
        for words in (*WRONG_WORDS, [], [5] * 27):
            with self.subTest(words=words):
                self.assertEqual(numbers(name(1, 0, words), name(1)), [-1, 1])

    def test_named_already(self):
        self.assertEqual(numbers(name(4, 0, [1]), name(4, 0, [2]), name(4, 0, [1]), name(5)), [1, -3, -3, 2])

    def test_the_same_words_may_name_two(self):
        self.assertEqual(numbers(name(1, 0, [6]), name(2, 0, [6])), [1, 2])

    def test_wrong_is_told_before_named_already(self):
        for call in (name(1, 1), name(1, 0, []), name(1, 0, [0]), name(1, 0, [1] * 21)):
            with self.subTest(call=call):
                self.assertEqual(numbers(name(1), call), [1, -1])


if __name__ == "__main__":
    unittest.main()

"""Calls written as lists, and answers read back one list a call."""

import random

from casedecided.laws import answers

TOP = 4294967295
BOTTOM = -2147483648


def begins():
    return [0]


def part(inside=0, words=()):
    return [1, inside, len(words), *words]


def define(part=0, word=1, start=0, end=0, body=(2,)):
    return [2, part, word, start, end, len(body), *body]


def name(statement=1, part=0, words=(1,)):
    return [3, statement, part, len(words), *words]


def order(one, two, three):
    return [4, one, two, three]


def rule(kind=1, rank=0, date=0, says=1, start=0, end=0, conditions=()):
    return [5, kind, rank, date, says, start, end, len(conditions), *conditions]


def first(one, other):
    return [6, one, other]


def week(*days):
    return [7, len(days), *days]


def yearly(month, day):
    return [8, month, day]


def easters(days):
    return [9, days]


def closed(day):
    return [10, day]


def way(counts=0, rest=0, months=0):
    return [11, counts, rest, months]


def scale(slices=0, rounding=0, unit=1, least=0, most=0, brackets=((0, 1, 2),)):
    row = [number for bracket in brackets for number in bracket]
    return [12, slices, rounding, unit, least, most, len(row), *row]


def rate(start=0, above=1, below=100):
    return [13, start, above, below]


def amount(number=1000):
    return [14, number]


def event(day=0):
    return [15, day]


def bring(part=0, so=1, words=(1,)):
    return [16, part, so, len(words), *words]


def take(proof):
    return [17, proof]


def remedy(statement=1, scale=0, amount=0, event=0, way=0, unit=0, many=1):
    return [18, statement, scale, amount, event, way, unit, many]


def facts(day=0):
    return [19, day]


def ask(day=0, statement=1):
    return [20, day, statement]


def why(day=0, statement=1):
    return [21, day, statement]


def case(day=0):
    return [22, day]


def owed(day=0):
    return [23, day]


def differs(day, other):
    return [24, day, other]


def turns(day=0, statement=1):
    return [25, day, statement]


def proving(*statements):
    """Calls that make these statements facts on each day; a statement's word is its own number."""
    named = [name(statement, 0, [statement]) for statement in sorted({abs(statement) for statement in statements})]
    return named + [bring(0, 1 if statement > 0 else 0, [abs(statement)]) for statement in statements]


def joined(calls):
    return [number for call in calls for number in call]


def answered(*calls):
    """What each of the calls, made in one list, answers: a list a call."""
    told = answers(joined(calls))
    found = []
    place = 0
    while place < len(told):
        behind = place + 1 + told[place]
        found.append(told[place + 1:behind])
        place = behind
    return found


def numbers(*calls):
    """The same for calls that answer one number each."""
    found = answered(*calls)
    if any(len(answer) != 1 for answer in found) or len(found) != len(calls):
        raise AssertionError(f"not one number a call: {found}")
    return [answer[0] for answer in found]


def last(*calls):
    return numbers(*calls)[-1]


def last_answer(*calls):
    return answered(*calls)[-1]


class Chooser:
    """Makes call lists with numbers in and about the bounds, the same ones each time."""

    def __init__(self, seed):
        self.random = random.Random(seed)

    def one(self, *choices):
        return self.random.choice(choices)

    def below(self, bound):
        return self.random.randrange(bound)

    def word(self):
        return self.one(1, 2, 3, 4, 99999, *([0, 100000, TOP] if self.below(8) == 0 else [5]))

    def words(self, most):
        size = self.one(1, 2, 3, 3, 20, *([0, 21, most] if self.below(4) == 0 else [4]))
        return [self.word() for place in range(size)]

    def statement(self):
        return self.one(1, 2, 3, -1, -2, 20, -20, *([0, 21, -21, TOP, BOTTOM] if self.below(6) == 0 else [4]))

    def day(self):
        return self.one(0, 1, 5, 400, 60000, *([60001, TOP] if self.below(6) == 0 else [7]))

    def end(self):
        return self.one(0, 0, self.day())

    def part(self):
        return self.one(0, 0, 1, 2, 3, 14, *([15, TOP] if self.below(6) == 0 else [1]))

    def small(self):
        return self.one(0, 1, 2, 3, *([4, 7, TOP] if self.below(6) == 0 else [1]))

    def rule(self):
        conditions = [self.statement() for place in range(self.one(0, 1, 2, 5, 6))]
        rank = self.one(0, 3, 9, 9, 10)
        return rule(self.below(3), rank, self.one(0, 99999, 99999, 100000), self.statement(), self.day(), self.end(),
                    conditions)

    def scale(self):
        brackets = [(self.one(0, 10 * place), self.one(0, 1, 10000, 10001), self.one(1, 7, 10000, 0))
                    for place in range(self.one(0, 1, 1, 2, 8))]
        return scale(self.below(2), self.below(4), self.one(0, 1, 1000000, 1000001), self.one(0, 5, 10 ** 9),
                     self.one(0, 4, 5, 10 ** 9, 10 ** 9 + 1), brackets)

    def remedy(self):
        unit = self.one(0, 1, 2, 3, 4, *([5, TOP] if self.below(6) == 0 else [0]))
        return remedy(abs(self.statement()), self.small(), self.small(), self.small(), self.small(), unit,
                      self.one(0, 1, 99, 100, 999, 1000, 9999, 10000))

    def call(self):
        """One that tells something."""
        kind = self.one(*range(1, 19))
        made = {
            1: lambda: part(self.part(), self.words(28)),
            2: lambda: define(self.part(), self.word(), self.day(), self.end(), self.words(25)),
            3: lambda: name(abs(self.statement()), self.part(), self.words(27)),
            4: lambda: order(self.below(3), self.below(3), self.below(3)),
            5: self.rule,
            6: lambda: first(self.small(), self.small()),
            7: lambda: week(*[self.small() for place in range(self.below(4))]),
            8: lambda: yearly(self.one(0, 1, 2, 12, 13), self.one(0, 1, 28, 29, 30, 31, 32)),
            9: lambda: easters(self.one(0, 60, -60, 61, -61, TOP, BOTTOM)),
            10: lambda: closed(self.day()),
            11: lambda: way(self.below(2), self.small(), self.small()),
            12: self.scale,
            13: lambda: rate(self.day(), self.one(0, 10000, 10001), self.one(0, 1, 10000, 10001)),
            14: lambda: amount(self.one(0, 5, 1000000000, 1000000001, TOP)),
            15: lambda: event(self.day()),
            16: lambda: bring(self.part(), self.below(2), self.words(27)),
            17: lambda: take(self.small()),
            18: self.remedy,
        }
        return made[kind]()

    def question(self):
        kind = self.one(19, 20, 21, 22, 23, 24, 25)
        made = {
            19: lambda: facts(self.day()),
            20: lambda: ask(self.day(), self.statement()),
            21: lambda: why(self.day(), self.statement()),
            22: lambda: case(self.day()),
            23: lambda: owed(self.day()),
            24: lambda: differs(self.day(), self.day()),
            25: lambda: turns(self.day(), self.statement()),
        }
        return made[kind]()

    def calls(self, size):
        """Calls that tell something, with a few among them that ask."""
        return [self.question() if self.below(8) == 0 else self.call() for place in range(size)]

"""The calls beside a second program that was written for the tests alone, in other ways."""

import datetime
import random
import unittest
from fractions import Fraction

import helper
from casedecided.laws import answers

ZERO = datetime.date(2000, 1, 1)
LAST = 60
STATEMENTS = [s for k in range(1, 21) for s in (k, -k)]


class Endless(Exception):
    """Words that can't be spelled out."""


class Model:
    """A house whose calls are all let through; days are tried one by one."""

    def __init__(self):
        self.told = {kind: [] for kind in range(26)}
        self.order = [0, 1, 2]
        self.week = []
        self.seen = {}

    # What is told.

    def tell(self, call):
        self.seen = {}
        kind = call[0]
        if kind == 4:
            self.order = call[1:]
            return 0
        if kind == 7:
            self.week = call[2:]
            return len(self.week)
        if kind == 17:
            self.told[16].pop(call[1])
            return len(self.told[16])
        self.told[kind].append(call)
        if kind == 6:
            return 0
        counted = kind in (1, 3, 8, 9, 10, 13)
        return len(self.told[kind]) if counted else len(self.told[kind]) - 1

    # Words.

    def definition(self, day, part, word):
        while True:
            found = [(call[3], number) for number, call in enumerate(self.told[2])
                     if call[1:3] == [part, word] and call[3] <= day and (call[4] == 0 or call[4] > day)]
            if found:
                return self.told[2][max(found)[1]]
            if part == 0:
                return None
            part = self.told[1][part - 1][1]

    def spell(self, day, part, words, within=()):
        found = []
        for word in words:
            call = self.definition(day, part, word)
            if call is None:
                found.append(word)
            else:
                if (call[1], word) in within:
                    raise Endless
                found += self.spell(day, call[1], call[6:], within + ((call[1], word),))
            if len(found) > 1000:
                raise Endless
        return found

    def alike(self, day, proof, name):
        try:
            return self.spell(day, proof[1], proof[4:]) == self.spell(day, name[2], name[4:])
        except Endless:
            return False

    def facts(self, day):
        """The facts, each with its first proof."""
        found = {}
        for number, proof in enumerate(self.told[16]):
            for name in self.told[3]:
                if self.alike(day, proof, name):
                    found.setdefault(name[1] if proof[2] else -name[1], number)
        return found

    # Rules.

    def rules(self, day):
        return [number for number, call in enumerate(self.told[5])
                if call[5] <= day and (call[6] == 0 or day < call[6])]

    def closure(self, day, statements):
        found = set(statements)
        while True:
            more = {self.told[5][n][4] for n in self.rules(day)
                    if self.told[5][n][1] == 0 and set(self.told[5][n][8:]) <= found}
            if more <= found:
                return found
            found |= more

    def before(self, day, one, other):
        """By what the one goes before the other: 1 to 4; or 0."""
        if [6, one, other] in self.told[6]:
            return 1
        if [6, other, one] in self.told[6]:
            return 0
        first, second = self.told[5][one], self.told[5][other]
        into = set(second[8:]) <= self.closure(day, first[8:])
        back = set(first[8:]) <= self.closure(day, second[8:])
        leads = [first[2] - second[2], int(into) - int(back), first[3] - second[3]]
        for kind in self.order:
            if leads[kind]:
                return kind + 2 if leads[kind] > 0 else 0
        return 0

    def decide(self, day):
        if day in self.seen:
            return self.seen[day]
        facts = self.facts(day)
        strictly = self.closure(day, facts)
        rules = {n: self.told[5][n] for n in self.rules(day)}
        pro = {s: [n for n in rules if rules[n][4] == s and rules[n][1] != 2] for s in STATEMENTS}
        con = {s: [n for n in rules if rules[n][4] == -s] for s in STATEMENTS}
        beats = {(a, b): self.before(day, a, b) for a in rules for b in rules if rules[a][4] == -rules[b][4]}
        rounds = [(set(), set())]
        while len(rounds) < 2 or rounds[-1] != rounds[-2]:
            up, down = rounds[-1]

            def fires(n):
                return set(rules[n][8:]) <= up

            def dead(n):
                return bool(set(rules[n][8:]) & down)

            holds = {s for s in STATEMENTS if s in strictly or -s not in strictly and any(
                fires(r) and all(dead(a) or beats[r, a] for a in con[s]) for r in pro[s])}
            fails = {s for s in STATEMENTS if s not in strictly and (-s in strictly or all(
                dead(r) or any(fires(a) and not beats[r, a] for a in con[s]) for r in pro[s]))}
            assert up <= holds and down <= fails and not holds & fails
            rounds.append((holds, fails))
        self.seen[day] = (facts, strictly, rules, pro, con, beats, rounds)
        return self.seen[day]

    def ask(self, day, s):
        facts, strictly, rules, pro, con, beats, rounds = self.decide(day)
        up, down = rounds[-1]
        if {s, -s} <= strictly:
            return 5
        if s in up:
            return 1
        if -s in up:
            return 2
        if all(any(set(rules[n][8:]) <= up for n in pro[t]) for t in (s, -s)):
            return 3
        return 0 if {s, -s} <= down else 4

    def why(self, day, s):
        facts, strictly, rules, pro, con, beats, rounds = self.decide(day)
        if self.ask(day, s) not in (1, 5):
            return [-6]
        if s in facts:
            return [0, facts[s]]
        if s in strictly:
            return [1, min(n for n in pro[s] if rules[n][1] == 0 and set(rules[n][8:]) <= strictly)]
        up, down = [pair for pair, later in zip(rounds, rounds[1:]) if s not in pair[0] and s in later[0]][0]
        rule = min(r for r in pro[s] if set(rules[r][8:]) <= up
                   and all(set(rules[a][8:]) & down or beats[r, a] for a in con[s]))
        found = [2, rule, len(con[s])]
        for against in con[s]:
            failed = [c for c in rules[against][8:] if c in down]
            found += [against, 0, failed[0]] if failed else [against, 1, beats[rule, against]]
        return found

    def spoken(self):
        found = {call[1] for call in self.told[3]}
        for call in self.told[5]:
            found |= {abs(s) for s in [call[4], *call[8:]]}
        return sorted(found)

    def differs(self, day, other):
        found = [s for s in self.spoken() if self.ask(day, s) != self.ask(other, s)]
        return [len(found), *found]

    def turns(self, day, s):
        for later in range(day + 1, LAST + 1):
            if self.ask(later, s) != self.ask(day, s):
                return [later, self.ask(later, s)]
        return [-6]

    # What follows.

    def fee(self, scale, amount):
        slices, rounding, unit, least, most = scale[1:6]
        brackets = [scale[k:k + 3] for k in range(7, len(scale), 3)]
        exact = Fraction(0)
        for place, (start, above, below) in enumerate(brackets):
            end = brackets[place + 1][0] if place + 1 < len(brackets) else amount + 1
            if slices:
                exact += Fraction(above, below) * max(0, min(amount, end) - start)
            elif start <= amount < end:
                exact = Fraction(above, below) * amount
        units = exact / unit
        low = units.numerator // units.denominator
        if rounding == 0:
            whole = low
        elif rounding == 1:
            whole = -(-units.numerator // units.denominator)
        elif rounding == 2:
            half = units + Fraction(1, 2)
            whole = half.numerator // half.denominator
        else:
            whole = round(units)
        fee = max(whole * unit, least)
        return min(fee, most) if most else fee

    def interest(self, fee, start, end):
        total = Fraction(0)
        for day in range(start, end):
            rates = [call for call in self.told[13] if call[1] <= day]
            if rates:
                total += Fraction(fee * rates[-1][2], rates[-1][3] * 365)
        return total

    def is_rest(self, day):
        date = ZERO + datetime.timedelta(day)
        if date.weekday() in self.week or [10, day] in self.told[10] or [8, date.month, date.day] in self.told[8]:
            return True
        y = date.year
        a, b, c = y % 19, y // 100, y % 100
        h = (19 * a + b - b // 4 - (b - (b + 8) // 25 + 1) // 3 + 15) % 30
        k = (32 + 2 * (b % 4) + 2 * (c // 4) - h - c % 4) % 7
        n = h + k + 114 - 7 * ((a + 11 * h + 22 * k) // 451)
        easter = datetime.date(y, n // 31, n % 31 + 1)
        return [9, (date - easter).days] in self.told[9]

    def on(self, day, months, rule):
        date = ZERO + datetime.timedelta(day)
        year, month = divmod(date.year * 12 + date.month - 1 + months, 12)
        target = datetime.date(year, month + 1, 1)
        following = datetime.date((year * 12 + month + 1) // 12, (year * 12 + month + 1) % 12 + 1, 1)
        was_last = (date + datetime.timedelta(1)).day == 1
        end = following - datetime.timedelta(1)
        if rule == 2 and was_last:
            found = end
        elif date.day <= end.day:
            found = target.replace(day=date.day)
        else:
            found = following if rule == 1 else end
        return (found - ZERO).days

    def last_day(self, remedy):
        scale, amount, event, way, unit, many = remedy[2:]
        start = self.told[15][event][1]
        counts, rest, months = self.told[11][way][1:]
        if unit == 4:
            first = start if counts else start + 1
            days = [day for day in range(first, first + 12000) if not self.is_rest(day)][:many]
            return days[-1] if len(days) == many else None
        end = start + many * (1, 7)[unit] if unit < 2 else self.on(start, many * (1, 12)[unit - 2], months)
        end -= counts
        if rest == 0 or not self.is_rest(end):
            return end
        onward = next((end + k for k in range(1, 400) if not self.is_rest(end + k)), None)
        back = next((end - k for k in range(1, 400) if not self.is_rest(end - k)), None)
        if rest == 1:
            return onward
        if rest == 2:
            return back
        if onward is None:
            return None
        dates = [ZERO + datetime.timedelta(day) for day in (end, onward)]
        return onward if dates[0].replace(day=1) == dates[1].replace(day=1) else back

    def claims(self, day):
        for number, remedy in enumerate(self.told[18]):
            if self.ask(day, remedy[1]) == 1:
                fee = self.fee(self.told[12][remedy[2]], self.told[14][remedy[3]][1])
                yield number, remedy, fee, self.interest(fee, self.told[15][remedy[4]][1], day)

    def case(self, day):
        found = [0]
        for number, remedy, fee, interest in self.claims(day):
            last = self.last_day(remedy)
            found[0] += 1
            found += [number, fee, interest.numerator, interest.denominator]
            found += [0, 0] if last is None else [1, last]
        return found

    def owed(self, day):
        total = sum((fee + interest for number, remedy, fee, interest in self.claims(day)), Fraction(0))
        return [0, total.numerator, total.denominator]

    def answer(self, call):
        if call[0] == 19:
            found = list(self.facts(call[1]))
            return [len(found), *found]
        if call[0] == 20:
            return [self.ask(*call[1:])]
        asked = {21: self.why, 22: self.case, 23: self.owed, 24: self.differs, 25: self.turns}.get(call[0])
        return [self.tell(call)] if asked is None else asked(*call[1:])


class Telling:
    """Makes calls that are let through, with few words, statements and days, so that much comes together."""

    def __init__(self, seed):
        self.random = random.Random(seed)
        self.proofs = 0
        self.statements = self.random.choice((2, 3, 5))
        self.words = self.random.choice((3, 5, 8))

    def below(self, bound):
        return self.random.randrange(bound)

    def one(self, *choices):
        return self.random.choice(choices)

    def statement(self):
        return self.one(1, -1) * (1 + self.below(self.statements))

    def some_words(self, most=3):
        return [1 + self.below(self.words) for k in range(1 + self.below(most))]

    def span(self):
        start = self.one(0, 0, self.below(40))
        return start, self.one(0, start + 1 + self.below(20))

    def rule(self):
        few = self.one(0, 1, 1, 2)
        conditions = self.random.sample([s for k in range(1, self.statements + 1) for s in (k, -k)], few)
        start, end = self.span()
        return helper.rule(self.one(0, 1, 1, 1, 2), self.below(2), self.below(2), self.statement(), start, end,
                           conditions)

    def scale(self):
        starts = sorted({0, *[self.below(1000) for k in range(self.below(4))]})
        least = self.one(0, 0, self.below(100))
        return helper.scale(self.below(2), self.below(4), self.one(1, 1, 10, 100), least,
                            self.one(0, least + self.below(300)),
                            [(start, self.below(5), 1 + self.below(8)) for start in starts])

    def law(self):
        """Parts, definitions, names, rules and proofs."""
        calls = [helper.part(self.below(k + 1)) for k in range(self.below(4))]
        parts = len(calls) + 1
        for k in range(self.below(10)):
            start, end = self.span()
            calls.append(helper.define(self.below(parts), 1 + self.below(self.words), start, end, self.some_words()))
        names = list(range(1, self.statements + 1))
        self.random.shuffle(names)
        calls += [helper.name(k, self.below(parts), self.some_words(2)) for k in names[:self.below(5)]]
        rules = [self.rule() for k in range(self.below(10))]
        calls += rules
        pairs = [(a, b) for a in range(len(rules)) for b in range(a)]
        for pair in self.random.sample(pairs, min(len(pairs), self.below(3))):
            calls.append(helper.first(*self.random.sample(pair, 2)))
        calls += [helper.bring(self.below(parts), self.one(0, 1, 1), self.some_words(2)) for k in range(self.below(6))]
        self.proofs = sum(1 for call in calls if call[0] == 16)
        if self.below(2):
            calls.append(helper.order(*self.random.sample(range(3), 3)))
        return calls

    def claims(self):
        calls = [helper.week(*sorted(self.random.sample(range(7), self.below(4))))]
        calls += [helper.yearly(self.one(1, 2, 12), 1 + self.below(29)) for k in range(self.below(4))]
        calls += [helper.easters(self.below(121) - 60) for k in range(self.below(3))]
        calls += [helper.closed(self.below(60)) for k in range(self.below(4))]
        calls += [helper.rate(start, self.below(9), 1 + self.below(99))
                  for start in sorted({self.below(60) for k in range(self.below(4))})]
        calls += [self.scale(), self.scale(), helper.amount(self.below(2000)), helper.amount(self.below(2000))]
        calls += [helper.event(self.below(60)), helper.event(self.one(0, 30, 59, 60, 1154, 60000))]
        calls += [helper.way(self.below(2), self.below(4), self.below(3)) for k in range(2)]
        for k in range(self.below(5)):
            unit = self.below(5)
            calls.append(helper.remedy(1 + self.below(self.statements), self.below(2), self.below(2), self.below(2),
                                       self.below(2), unit, 1 + self.below((40, 20, 30, 40, 30)[unit])))
        return calls

    def question(self):
        day = self.below(LAST + 1)
        kind = self.one(19, 20, 21, 21, 22, 23, 24, 25)
        if kind in (20, 21, 25):
            return [kind, day, self.statement()]
        return [kind, day, self.below(LAST + 1)] if kind == 24 else [kind, day]

    def calls(self):
        calls = self.law() + self.claims()
        calls = calls[:66]
        for k in range(80 - len(calls)):
            if self.proofs and self.below(12) == 0:
                calls.append(helper.take(self.below(self.proofs)))
                self.proofs -= 1
            else:
                calls.append(self.question())
        return calls


class Beside(unittest.TestCase):
    def test_the_same_is_answered(self):
        kinds = set()
        for seed in range(250):
            calls = Telling(seed).calls()
            model = Model()
            due = [model.answer(call) for call in calls]
            found = helper.answered(*calls)
            for call, answer, asked in zip(calls, found, due):
                with self.subTest(seed=seed, call=call):
                    self.assertEqual(answer, asked)
                if call[0] in (20, 21):
                    kinds.add((call[0], answer[0]))
                if call[0] == 21 and answer[0] == 2:
                    kinds.update((21, 2, answer[k], answer[k + 1] if answer[k] else 0)
                                 for k in range(4, len(answer), 3))
        # Each way in which something may be asked and shown has been there.
        self.assertLessEqual({(20, k) for k in range(6)}, kinds)
        self.assertLessEqual({(21, -6), (21, 0), (21, 1), (21, 2), (21, 2, 0, 0), (21, 2, 1, 1), (21, 2, 1, 2),
                              (21, 2, 1, 3), (21, 2, 1, 4)}, kinds)

    def test_nothing_is_changed_or_kept(self):
        for seed in range(250, 270):
            calls = helper.joined(Telling(seed).calls())
            before = list(calls)
            found = answers(calls)
            self.assertEqual(calls, before)
            self.assertEqual(answers(calls), found)
            self.assertEqual({type(number) for number in found}, {int})


if __name__ == "__main__":
    unittest.main()

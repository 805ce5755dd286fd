"""A house of laws: what has been told of it, kept in the order in which it was told."""

RANK = 0
SPECIAL = 1
DATE = 2


class Definition:
    """What a word means at a part: in force from start up to (not with) end; an end of 0 is none."""

    def __init__(self, part, word, start, end, body):
        self.part = part
        self.word = word
        self.start = start
        self.end = end
        self.body = body


class Name:
    """The words, at a part, by which a statement is named."""

    def __init__(self, statement, part, words):
        self.statement = statement
        self.part = part
        self.words = words


class Rule:
    """A rule: in force from start up to (not with) end; an end of 0 is none."""

    def __init__(self, kind, rank, date, says, start, end, conditions):
        self.kind = kind
        self.rank = rank
        self.date = date
        self.says = says
        self.start = start
        self.end = end
        self.conditions = conditions


class Way:
    """A way of counting."""

    def __init__(self, counts, rest, months):
        self.counts = counts
        self.rest = rest
        self.months = months


class Scale:
    """A scale; a most of 0 is none. A bracket is a tuple: from where it is, and its rate's two numbers."""

    def __init__(self, slices, rounding, unit, least, most, brackets):
        self.slices = slices
        self.rounding = rounding
        self.unit = unit
        self.least = least
        self.most = most
        self.brackets = brackets


class Proof:
    """Words, at a part, that are brought forward: that it's so (1), or isn't (0)."""

    def __init__(self, part, so, words):
        self.part = part
        self.so = so
        self.words = words


class Remedy:
    """What a statement entitles to, and the span (so many of a unit) behind the event in which it may be claimed."""

    def __init__(self, statement, scale, amount, event, way, unit, many):
        self.statement = statement
        self.scale = scale
        self.amount = amount
        self.event = event
        self.way = way
        self.unit = unit
        self.many = many


class House:
    """One house of laws, which at its beginning has the law's whole alone."""

    def __init__(self):
        # Of each part the one that it is in; the whole is in none.
        self.parts = [None]
        self.definitions = []
        self.names = []
        self.order = (RANK, SPECIAL, DATE)
        self.rules = []
        # Pairs of rules: the first one goes before the second.
        self.firsts = []
        self.week = []
        self.yearly = []
        self.easters = []
        self.closed = []
        self.ways = []
        self.scales = []
        # Of each rate from which day on it is, and its two numbers; they rise by their days.
        self.rates = []
        self.amounts = []
        self.events = []
        self.proofs = []
        self.remedies = []

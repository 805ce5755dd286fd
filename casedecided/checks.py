"""The numbers of the refusals, and the checks that several calls share."""

WRONG = -1
MISSING = -2
ALREADY = -3
FULL = -5
NONE_SUCH = -6

LAST_DAY = 60000
GREATEST_WORD = 99999
MOST_WORDS = 20
GREATEST_STATEMENT = 20
GREATEST_RATE_NUMBER = 10000
GREATEST_AMOUNT = 1000000000


def is_day(number):
    return 0 <= number <= LAST_DAY


def is_span(start, end):
    """Whether something can be in force from start up to end."""
    if not is_day(start) or not is_day(end):
        return False
    # An end of 0 says that there is none, so it needn't lie behind the start.
    return end == 0 or end > start


def is_in_force(thing, day):
    """Whether a definition or a rule is in force on a day."""
    return thing.start <= day and (thing.end == 0 or day < thing.end)


def is_word(number):
    return 1 <= number <= GREATEST_WORD


def are_words(numbers):
    """Whether these are words, and not too many; there may be none of them."""
    if len(numbers) > MOST_WORDS:
        return False
    return all([is_word(number) for number in numbers])


def is_named_statement(number):
    """Whether this is a statement above 0, which alone are named and have remedies."""
    return 1 <= number <= GREATEST_STATEMENT


def is_statement(number):
    return number != 0 and abs(number) <= GREATEST_STATEMENT


def is_rate(above, below):
    """Whether a fraction, as it is told and not in lowest terms, can be a rate."""
    return 0 <= above <= GREATEST_RATE_NUMBER and 1 <= below <= GREATEST_RATE_NUMBER


def is_amount(number):
    return 0 <= number <= GREATEST_AMOUNT


def has(things, number):
    """Whether one of the things, which are numbered from 0, has this number."""
    return 0 <= number < len(things)


def keep(things, thing, room):
    """Keeps a thing, if there is room for it, and answers its number."""
    if len(things) >= room:
        return FULL
    things.append(thing)
    return len(things) - 1

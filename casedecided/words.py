"""What is told of parts, definitions, names and proofs."""

from casedecided.checks import ALREADY, MISSING, WRONG
from casedecided.checks import are_words, has, is_named_statement, is_span, is_word, keep
from casedecided.house import Name

ROOM_FOR_PARTS = 15
ROOM_FOR_DEFINITIONS = 20
ROOM_FOR_PROOFS = 12


def tell_part(house, inside, words):
    """The new part's number; its words stand there for nothing, but are checked."""
    if not has(house.parts, inside):
        return MISSING
    if not are_words(words):
        return WRONG
    return keep(house.parts, inside, ROOM_FOR_PARTS)


def is_definition(definition):
    if not is_word(definition.word) or not is_span(definition.start, definition.end):
        return False
    return len(definition.body) > 0 and are_words(definition.body)


def tell_definition(house, definition):
    """The definition's number."""
    if not has(house.parts, definition.part):
        return MISSING
    if not is_definition(definition):
        return WRONG
    return keep(house.definitions, definition, ROOM_FOR_DEFINITIONS)


def are_words_at(house, part, words):
    """Whether there is the part, and these are words that can name or prove something there."""
    return has(house.parts, part) and len(words) > 0 and are_words(words)


def tell_name(house, statement, part, words):
    """How many statements are named."""
    if not is_named_statement(statement) or not are_words_at(house, part, words):
        return WRONG
    if statement in [name.statement for name in house.names]:
        return ALREADY
    house.names.append(Name(statement, part, words))
    return len(house.names)


def bring_proof(house, proof):
    """The proof's number."""
    if not are_words_at(house, proof.part, proof.words):
        return WRONG
    return keep(house.proofs, proof, ROOM_FOR_PROOFS)


def take_proof(house, number):
    """How many proofs are left; those behind it get lesser numbers."""
    if not has(house.proofs, number):
        return MISSING
    house.proofs.pop(number)
    return len(house.proofs)

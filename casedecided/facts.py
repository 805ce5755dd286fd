"""What is proved on a day."""

from casedecided.spelling import spelled_out, spelling_on


def proved_by(proof, words, named):
    """The statements that a proof proves; named are the names' statements, each with its words spelled out."""
    if words is None:
        return []
    sign = 1 if proof.so == 1 else -1
    return [sign * pair[0] for pair in named if pair[1] == words]


def proved_on(house, day):
    """Of each proof what it proves on a day."""
    spelling = spelling_on(house, day)
    named = [(name.statement, spelled_out(spelling, name.part, name.words)) for name in house.names]
    return [proved_by(proof, spelled_out(spelling, proof.part, proof.words), named) for proof in house.proofs]


def facts_of(proved):
    """The statements that are proved, each once."""
    facts = {}
    for statements in proved:
        for statement in statements:
            facts[statement] = True
    return list(facts)


def first_proof(proved, statement):
    """The number of the first proof of a fact."""
    return [statement in statements for statements in proved].index(True)

"""Words spelled out on a day."""

from casedecided.checks import is_in_force

MOST_SPELLED = 1000


class Spelling:
    """What words mean on a day: of each part its defined words, and the bodies that can be spelled out."""

    def __init__(self, meanings, bodies):
        # Of each part a dict: of each word that has a definition there that one's number.
        self.meanings = meanings
        self.bodies = bodies


def definitions_on(house, day):
    """The numbers of the definitions in force, those that count least ahead."""
    numbers = [number for number in range(len(house.definitions)) if is_in_force(house.definitions[number], day)]
    # Of those that came into force at once the one told last stays behind the others.
    return sorted(numbers, key=lambda number: (house.definitions[number].start, number))


def meanings_of(house, numbers):
    """Of each part its words that have one of these definitions there, with that one's number."""
    meanings = []
    for part, inside in enumerate(house.parts):
        # A part is told behind the one that it's in, so that one's meanings are there already.
        here = {} if inside is None else dict(meanings[inside])
        for number in numbers:
            if house.definitions[number].part == part:
                here[house.definitions[number].word] = number
        meanings.append(here)
    return meanings


def spelled_out(spelling, part, words):
    """The words spelled out at a part; None if they can't be with the bodies that are there."""
    here = spelling.meanings[part]
    found = []
    for word in words:
        if word not in here:
            found.append(word)
        elif here[word] in spelling.bodies:
            found.extend(spelling.bodies[here[word]])
        else:
            return None
    if len(found) > MOST_SPELLED:
        return None
    return found


def spell_bodies(spelling, definitions, numbers):
    """Spells out one body after another, each when those are there that it needs."""
    left = numbers
    before = len(left) + 1
    # A body that leads back to itself waits for itself, so it is left when nothing more comes.
    while len(left) < before:
        before = len(left)
        waiting = []
        for number in left:
            body = spelled_out(spelling, definitions[number].part, definitions[number].body)
            if body is None:
                waiting.append(number)
            else:
                spelling.bodies[number] = body
        left = waiting


def spelling_on(house, day):
    """What words mean on a day."""
    numbers = definitions_on(house, day)
    spelling = Spelling(meanings_of(house, numbers), {})
    spell_bodies(spelling, house.definitions, numbers)
    return spelling

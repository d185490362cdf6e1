"""Facts: which tuples are one, and what holds at a gate on a day."""

from pikeroll.errors import BadFact

# The least and the greatest number of each kind, None where none is the greatest.
BOUNDS = {
    "gate": (0, 7),
    "carriage": (0, 9),
    "trust": (0, 3),
    "day": (0, 999),
    "minute": (0, 1439),
    "toll": (0, 48),
    "payment": (0, 100000),
    "horses": (1, 8),
    "number": (1, None),
    "place": (0, 7),
}

# The kinds of the things that stand in a fact behind its first text.
SHAPES = {
    "toll": ("gate", "day", "toll"),
    "board": ("gate", "day", "gates"),
    "trust": ("gate", "day", "trust"),
    "folk": ("carriage", "day", "day"),
    "bargain": ("gate", "carriage", "day", "day"),
    "pass": ("day", "minute", "gate", "carriage", "horses"),
    "lost": ("number", "minute"),
    "paid": ("carriage", "day", "payment"),
}


def is_number(thing):
    """Whether it is a whole number."""
    # True and False are numbers to Python, but none here.
    return isinstance(thing, int) and not isinstance(thing, bool)


def is_good(kind, number):
    """Whether it is a whole number within the bounds of its kind."""
    if not is_number(number):
        return False
    least, greatest = BOUNDS[kind]
    return least <= number and (greatest is None or number <= greatest)


def are_rising(kind, numbers):
    """Whether it is a rising tuple of good numbers of a kind."""
    if not isinstance(numbers, tuple):
        return False
    if not all([is_good(kind, number) for number in numbers]):
        return False
    return list(numbers) == sorted(set(numbers))


def need_fact(fact):
    """Refuse what is no fact, by the place of the first thing that is wrong."""
    kinds = SHAPES.get(fact[0])
    if kinds is None or len(fact) != len(kinds) + 1:
        raise BadFact(0)
    for place, kind in enumerate(kinds, start=1):
        thing = fact[place]
        good = are_rising("gate", thing) if kind == "gates" else is_good(kind, thing)
        if not good:
            raise BadFact(place)


def holding(facts, word, gate, day, unsaid):
    """What the fact of that first text tells that holds, or what holds ahead of all."""
    latest = (-1, 0)
    held = unsaid
    for number, fact in facts:
        if fact[:2] != (word, gate) or fact[2] > day:
            continue
        if (fact[2], number) > latest:
            latest = (fact[2], number)
            held = fact[3]
    return held


def toll_on(facts, gate, day):
    """The halfpennies that a gate asks for each horse on a day."""
    return holding(facts, "toll", gate, day, 0)


def board_on(facts, gate, day):
    """The gates that the tickets of a gate clear on a day, its own one among them."""
    named = holding(facts, "board", gate, day, ())
    return tuple(sorted(set([gate, *named])))


def trust_on(facts, gate, day):
    """The trust whose a gate is on a day."""
    return holding(facts, "trust", gate, day, 0)

"""Pages: rolls written as texts and read again."""

from pikeroll.errors import BadFact, BadPage, Full
from pikeroll.facts import SHAPES
from pikeroll.roll import Roll

MOST_FIGURES = 30


def fact_text(fact):
    """A fact's first text and then its numbers, those of a tuple too."""
    words = []
    for thing in fact:
        if isinstance(thing, tuple):
            words.extend([str(number) for number in thing])
        else:
            words.append(str(thing))
    return " ".join(words)


def page_of(roll):
    """The page of a roll: for each fact that stands a row."""
    return "".join([f"{number} {fact_text(fact)}\n" for number, fact in roll.facts()])


def is_number_text(word):
    """Whether a word is how a number is written."""
    # Figures of other scripts are figures to Python, but none here.
    if not word.isascii() or not word.isdigit() or len(word) > MOST_FIGURES:
        return False
    return word == "0" or not word.startswith("0")


def read_numbers(words):
    """The numbers that words write, None where one of them writes none."""
    if not all([is_number_text(word) for word in words]):
        return None
    return [int(word) for word in words]


def read_fact(words):
    """The fact that words write, perhaps out of bounds, None where they do not have its form."""
    if not words or words[0] not in SHAPES:
        return None
    kinds = SHAPES[words[0]]
    things = read_numbers(words[1:])
    if things is None:
        return None
    if kinds[-1] == "gates":
        # All numbers behind the single ones are the board's tuple, also where there are none.
        singles = len(kinds) - 1
        things = [*things[:singles], tuple(things[singles:])]
    return (words[0], *things) if len(things) == len(kinds) else None


def tell_row(roll, at, row):
    """Tell a roll the fact of a page's row."""
    number, *words = row.split(" ")
    fact = read_fact(words)
    if fact is None or number != str(at + 1):
        raise BadPage(at)
    try:
        roll.tell(fact)
    except (BadFact, Full):
        raise BadPage(at) from None


def read_page(text):
    """The roll that was told the facts of a page."""
    *rows, rest = text.split("\n")
    roll = Roll()
    for at, row in enumerate(rows):
        tell_row(roll, at, row)
    if rest != "":
        raise BadPage(len(rows))
    return roll

"""The desk: lines by which a roll is told, put right and asked."""

from pikeroll.accounts import balances, owes
from pikeroll.coin import Toll, stub
from pikeroll.errors import Missing, PikeError
from pikeroll.pages import read_fact, read_numbers
from pikeroll.roll import Roll
from pikeroll.walk import row_of, why

DONE = "done"


def strike_line(roll, number):
    roll.strike(number)
    return DONE


def undo_line(roll):
    roll.undo()
    return DONE


def redo_line(roll):
    roll.redo()
    return DONE


def row_line(roll, number):
    _, word, by, halves = row_of(roll.facts(), number)
    ticket = "-" if by is None else stub(by)
    return f"{word} {ticket} {str(Toll(halves))}"


def why_line(roll, number):
    hindered = [f"{stub(ticket)} {word}" for ticket, word in why(roll.facts(), number)]
    return ", ".join(hindered) if hindered else "none"


def owes_line(roll, carriage, day):
    return str(owes(roll.facts(), carriage, day))


def trusts_line(roll, day):
    return ", ".join([str(toll) for toll in balances(roll.facts(), day)])


# By its first word what answers a line of numbers, and how many numbers there are.
ANSWERS = {
    "strike": strike_line,
    "undo": undo_line,
    "redo": redo_line,
    "row": row_line,
    "why": why_line,
    "owes": owes_line,
    "trusts": trusts_line,
}
COUNTS = {"strike": 1, "undo": 0, "redo": 0, "row": 1, "why": 1, "owes": 2, "trusts": 1}


def right_line(roll, words):
    """The answer to a fact put right, None where the words are no number and a fact."""
    numbers = read_numbers(words[:1])
    fact = read_fact(words[1:])
    if numbers is None or fact is None:
        return None
    roll.right(numbers[0], fact)
    return DONE


def numbers_line(roll, word, words):
    """The answer to a word and numbers, None where they are not so many."""
    numbers = read_numbers(words)
    if numbers is None or len(numbers) != COUNTS[word]:
        return None
    action = ANSWERS[word]
    return action(roll, *numbers)


def answer(roll, words):
    """The answer to the words of a line, None where they have no form."""
    if words[0] == "right":
        return right_line(roll, words[1:])
    if words[0] in ANSWERS:
        return numbers_line(roll, words[0], words[1:])
    fact = read_fact(words)
    return None if fact is None else str(roll.tell(fact))


class Desk:
    """A roll of its own, and the answers to the lines that are said."""

    def __init__(self, roll=None):
        # Not asked as a truth: a roll without facts is as False, and may have deeds to take back.
        self.held = Roll() if roll is None else roll.twin()

    def say(self, line):
        """The answer to a line."""
        try:
            told = answer(self.held, line.split(" "))
        except (PikeError, Missing) as refusal:
            return f"no: {refusal.called}"
        return "no line" if told is None else told

    def roll(self):
        """A twin of the desk's roll."""
        return self.held.twin()

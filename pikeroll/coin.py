"""Coin in halfpennies, and the stubs that number tickets in dozens."""

from pikeroll.errors import BadStub

FIGURES = "0123456789ab"
DOZEN = 12
LEAST_FIGURES = 3


def coin_text(halves):
    """A count of halfpennies, written in whole pence and a half."""
    sign = "-" if halves < 0 else ""
    # Split without its sign: rounded down, a count below nought tells a penny too many.
    pence, half = divmod(abs(halves), 2)
    if half == 0:
        return f"{sign}{pence}d"
    if pence == 0:
        return f"{sign}1/2d"
    return f"{sign}{pence} 1/2d"


class Toll:
    """So many halfpennies, perhaps below nought."""

    def __init__(self, halves=0):
        self.halves = halves

    def __eq__(self, other):
        return isinstance(other, Toll) and self.halves == other.halves

    def __str__(self):
        return str(coin_text(self.halves))

    def __repr__(self):
        return f"Toll({self.halves})"

    def plus(self, other):
        return Toll(self.halves + other.halves)

    def times(self, many=2):
        return Toll(self.halves * many)

    def third(self):
        """The third part, rounded down, below nought too."""
        return Toll(self.halves // 3)


def stub(number):
    """A ticket's number as it is written in dozens."""
    text = ""
    while number > 0:
        number, figure = divmod(number, DOZEN)
        text = FIGURES[figure] + text
    return text.rjust(LEAST_FIGURES, "0")


def read_stub(text):
    """The number of which a text is the stub."""
    number = 0
    for sign in text:
        number = number * DOZEN + FIGURES.find(sign)
    # Writing it again finds strange signs, too, and noughts too many or too few.
    if stub(number) != text:
        raise BadStub(f"no stub: {text}")
    return number


def summed(tolls, start=None):
    """The Toll of a list of Tolls and of the one with which it begins."""
    halves = 0 if start is None else start.halves
    for toll in tolls:
        halves = halves + toll.halves
    return Toll(halves)

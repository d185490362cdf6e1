"""The roll: facts that are told, put right and struck out, and deeds that are taken back."""

from pikeroll.errors import BadCount, Full, NoFact, Nothing, Other
from pikeroll.facts import is_good, is_number, need_fact

MOST_FACTS = 120


class Roll:
    """Facts by their numbers, with the deeds that made them."""

    def __init__(self):
        # A state is the tuple of all facts told, None in place of each that is struck out.
        # The first one stands ahead of all deeds, and behind it one for each deed that stands.
        self.states = [()]
        # The states of the deeds that were taken back, the one that was first taken back first.
        self.undone = []

    def __eq__(self, other):
        return isinstance(other, Roll) and self.facts() == other.facts()

    def __len__(self):
        return len(self.facts())

    def need_standing(self, number):
        """The fact that stands under a number."""
        state = self.states[-1]
        # Asked first, as True would be found to be the number 1.
        if not is_good("number", number) or number > len(state) or state[number - 1] is None:
            raise NoFact(number)
        return state[number - 1]

    def enter(self, state):
        """Do a deed that leads to a state."""
        self.states.append(state)
        self.undone.clear()

    def replace_fact(self, number, fact):
        """Do the deed by which a fact, or None, comes to stand under a number."""
        state = self.states[-1]
        self.enter((*state[:number - 1], fact, *state[number:]))

    def tell(self, fact):
        """Tell a fact; its number."""
        need_fact(fact)
        state = self.states[-1]
        if len(state) >= MOST_FACTS:
            raise Full(f"{MOST_FACTS} facts were told")
        self.enter((*state, fact))
        return len(state) + 1

    def right(self, number, fact):
        """Put a fact right; the one that stood there."""
        stood = self.need_standing(number)
        need_fact(fact)
        if fact[0] != stood[0]:
            raise Other(f"{fact[0]} in place of {stood[0]}")
        self.replace_fact(number, fact)
        return stood

    def strike(self, number):
        """Strike a fact out; that fact."""
        stood = self.need_standing(number)
        self.replace_fact(number, None)
        return stood

    def undo(self):
        """Take back the last deed that stands."""
        if self.deeds() == 0:
            raise Nothing("no deed stands")
        self.undone.append(self.states.pop())

    def redo(self):
        """Do again the deed that was taken back last."""
        if len(self.undone) == 0:
            raise Nothing("no deed to do again")
        self.states.append(self.undone.pop())

    def facts(self):
        """The pairs (number, fact) that stand."""
        return [(number, fact) for number, fact in enumerate(self.states[-1], start=1) if fact is not None]

    def told(self):
        """How many facts were told, struck ones too."""
        return len(self.states[-1])

    def deeds(self):
        """How many deeds stand."""
        return len(self.states) - 1

    def known(self, count):
        """The roll of the first so many deeds that stand."""
        if not is_number(count) or count < 0 or count > self.deeds():
            raise BadCount(f"not so many deeds stand: {count}")
        early = Roll()
        early.states = self.states[:count + 1]
        return early

    def twin(self):
        """A roll with all that this one has."""
        other = Roll()
        other.states = list(self.states)
        other.undone = list(self.undone)
        return other

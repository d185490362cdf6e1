"""A day's walk: what the passings of a carriage owe, and by which tickets they go free."""

from pikeroll.errors import BadDay, NoCarriage, NoPassing
from pikeroll.facts import board_on, is_good, toll_on

WEEK = 7
SUNDAY = 6


def need_carriage(carriage):
    """Refuse what is no carriage."""
    if not is_good("carriage", carriage):
        raise NoCarriage(carriage)


def need_day(day):
    """Refuse what is no day."""
    if not is_good("day", day):
        raise BadDay(f"no day: {day}")


def need_passing(facts, number):
    """The fact of the passing that has the number."""
    # Asked first, as True would be found to be the number 1.
    if is_good("number", number):
        for held, fact in facts:
            if held == number and fact[0] == "pass":
                return fact
    raise NoPassing(number)


def fare(facts, gate, horses, day):
    """The halfpennies that a passing owes where nothing lets it by."""
    halves = toll_on(facts, gate, day) * horses
    return halves * 2 if day % WEEK == SUNDAY else halves


def passings_on(facts, carriage, day):
    """The passings (minute, number, gate, horses) of a carriage on a day, in their order."""
    found = []
    for number, fact in facts:
        if fact[0] == "pass" and fact[1] == day and fact[4] == carriage:
            found.append((fact[2], number, fact[3], fact[5]))
    return sorted(found)


def free_on(facts, day):
    """The folk and bargains that hold on a day, each without its days."""
    free = []
    for _, fact in facts:
        if fact[0] in ("folk", "bargain") and fact[-2] <= day <= fact[-1]:
            free.append(fact[:-2])
    return free


def lost_minutes(facts):
    """By the number of each ticket that is lost the minute from which on it is."""
    minutes = {}
    for _, fact in facts:
        if fact[0] == "lost":
            number, minute = fact[1], fact[2]
            minutes[number] = min(minute, minutes.get(number, minute))
    return minutes


class CarriageDay:
    """A carriage on a day: its passings in their order, and what lets them by.

    A ticket is told as the passing at which it was bought.
    """

    def __init__(self, facts, carriage, day):
        self.all_facts = facts
        self.carriage = carriage
        self.day = day
        self.order = passings_on(facts, carriage, day)
        self.free = free_on(facts, day)
        self.lost = lost_minutes(facts)
        gates = sorted({passing[2] for passing in self.order})
        self.boards = {gate: board_on(facts, gate, day) for gate in gates}

    def hindrance(self, ticket, passing):
        """Why a ticket does not clear a passing behind it, None where it does."""
        _, number, bought_at, most_horses = ticket
        minute, _, gate, horses = passing
        if gate not in self.boards[bought_at]:
            return "board"
        if most_horses < horses:
            return "horses"
        if number in self.lost and self.lost[number] <= minute:
            return "lost"
        return None

    def told_row(self, passing, checks):
        """The row of a passing, by the hindrance of each ticket that was bought ahead of it."""
        _, number, gate, horses = passing
        if ("folk", self.carriage) in self.free:
            return number, "folk", None, 0
        if ("bargain", gate, self.carriage) in self.free:
            return number, "bargain", None, 0
        for ticket, hindrance in checks:
            if hindrance is None:
                return number, "ticket", ticket, 0
        return number, "owed", None, fare(self.all_facts, gate, horses, self.day)

    def walk(self):
        """For each passing its row, and a pair (number, hindrance) for each ticket ahead of it."""
        tickets = []
        told = []
        for passing in self.order:
            checks = [(ticket[1], self.hindrance(ticket, passing)) for ticket in tickets]
            row = self.told_row(passing, checks)
            if row[1] == "owed":
                tickets.append(passing)
            told.append((row, checks))
        return told


def day_walk(facts, carriage, day=0):
    """The rows of a carriage's passings on a day, in their order."""
    need_carriage(carriage)
    need_day(day)
    return [row for row, _ in CarriageDay(facts, carriage, day).walk()]


def row_of(facts, number):
    """The row of one passing."""
    fact = need_passing(facts, number)
    rows = {row[0]: row for row in day_walk(facts, fact[4], fact[1])}
    return rows[number]


def why(facts, number):
    """The tickets bought ahead of a passing that do not clear it, each with the reason."""
    fact = need_passing(facts, number)
    hindered = []
    for row, checks in CarriageDay(facts, fact[4], fact[1]).walk():
        if row[0] == number:
            hindered = [check for check in checks if check[1] is not None]
    return hindered


def driven_days(facts):
    """The pairs (carriage, day) that have a passing, rising."""
    return sorted({(fact[4], fact[1]) for _, fact in facts if fact[0] == "pass"})


def rows_by_number(facts):
    """The row of each passing, by its number."""
    rows = {}
    for carriage, day in driven_days(facts):
        for row in day_walk(facts, carriage, day):
            rows[row[0]] = row
    return rows


def turned(facts, others):
    """The numbers of the passings of both lists of facts whose rows are unlike."""
    rows = rows_by_number(facts)
    turns = rows_by_number(others)
    return sorted([number for number, row in rows.items() if turns.get(number, row) != row])

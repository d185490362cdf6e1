"""Accounts of the carriages, and what the trusts owe one another."""

from pikeroll.coin import Toll
from pikeroll.facts import trust_on
from pikeroll.walk import day_walk, driven_days, fare, need_carriage, need_day

TRUSTS = 4


def paid_by(facts, carriage, day):
    """The halfpennies that a carriage paid to a day, that one counted."""
    return sum([fact[3] for _, fact in facts if fact[:2] == ("paid", carriage) and fact[2] <= day])


def owes(facts, carriage, day=999):
    """What a carriage owes by a day, less what it paid."""
    need_carriage(carriage)
    need_day(day)
    halves = 0
    for driver, driven in driven_days(facts):
        if driver == carriage and driven <= day:
            halves = halves + sum([row[3] for row in day_walk(facts, carriage, driven)])
    return Toll(halves - paid_by(facts, carriage, day))


def cleared_by_day(facts, day):
    """For each passing to a day that a ticket lets by the pair of both facts, the ticket's first."""
    known = dict(facts)
    pairs = []
    for carriage, driven in driven_days(facts):
        if driven > day:
            continue
        for number, word, by, _ in day_walk(facts, carriage, driven):
            if word == "ticket":
                pairs.append((known[by], known[number]))
    return pairs


def balances(facts, day=999):
    """For each trust what the others owe it by a day, less what it owes them."""
    need_day(day)
    told = [Toll() for _ in range(TRUSTS)]
    for ticket, passing in cleared_by_day(facts, day):
        _, driven, _, gate, _, horses = passing
        former = trust_on(facts, ticket[3], driven)
        latter = trust_on(facts, gate, driven)
        # One trust for both takes from itself what it gives itself.
        part = Toll(fare(facts, gate, horses, driven)).third()
        told[former] = told[former].plus(part.times(-1))
        told[latter] = told[latter].plus(part)
    return told

"""Drives for a day's errands: what they pay, the cheapest one, and prices that show it is."""

from heapq import heappop, heappush

from pikeroll.errors import BadHorses, BadPlace
from pikeroll.facts import are_rising, board_on, is_good, is_number
from pikeroll.nets import far_end, need_net, need_place
from pikeroll.walk import fare, need_day

MOST_ERRANDS = 3


def need_errands(start, errands):
    """Refuse what is no place, too many errands, and one errand twice."""
    for place in [start, *errands]:
        need_place(place)
    if len(errands) > MOST_ERRANDS or len(set(errands)) < len(errands):
        raise BadPlace(f"too many errands, or one twice: {errands}")


def need_way(places):
    """Refuse a way without places, and one with a place that is none."""
    if len(places) == 0:
        raise BadPlace("no places")
    for place in places:
        need_place(place)


def need_horses(horses):
    """Refuse a count of horses that no carriage has."""
    if not is_good("horses", horses):
        raise BadHorses(f"no count of horses: {horses}")


class Turnpikes:
    """The roads of a net, with what their gates ask and clear for so many horses on a day.

    A stand is a triple (place, cleared, left), as the document tells it.
    """

    def __init__(self, facts, net, horses, day):
        self.roads = list(net)
        gates = sorted({road[2] for road in net if road[2] is not None})
        self.fares = {gate: fare(facts, gate, horses, day) for gate in gates}
        self.boards = {gate: board_on(facts, gate, day) for gate in gates}

    def passed(self, gate, cleared):
        """What a road with a gate, or with None, costs, and what is cleared behind it."""
        # A gate that is cleared sells no ticket, so its board clears nothing more.
        if gate is None or gate in cleared:
            return 0, cleared
        return self.fares[gate], tuple(sorted(set([*cleared, *self.boards[gate]])))

    def steps(self, stand):
        """For each road from a stand's place the pair of what it costs and the stand behind it."""
        place, cleared, left = stand
        found = []
        for road in self.roads:
            end = far_end(road, place)
            if end is not None:
                cost, behind = self.passed(road[2], cleared)
                undone = tuple([errand for errand in left if errand != end])
                found.append((cost, (end, behind, undone)))
        return found

    def paid_behind(self, paid, place, end):
        """What is paid at least behind one more road, by what is cleared, as paid tells it ahead."""
        least = {}
        for cleared, halves in paid.items():
            for cost, stand in self.steps((place, cleared, ())):
                if stand[0] == end:
                    least[stand[1]] = min(halves + cost, least.get(stand[1], halves + cost))
        return least

    def reached(self, first):
        """For each stand to which a drive from the first one leads, the steps from it."""
        onward = {}
        waiting = [first]
        while waiting:
            stand = waiting.pop()
            if stand in onward:
                continue
            # A drive ends where no errand is left.
            onward[stand] = self.steps(stand) if stand[2] else []
            waiting.extend([behind for _, behind in onward[stand]])
        return onward

    def is_good_price(self, known, stand):
        """Whether the known price of a stand is not above what the known ones behind it allow."""
        if not stand[2]:
            return known[stand] == 0
        for cost, behind in self.steps(stand):
            if behind not in known or known[stand] > cost + known[behind]:
                return False
        return True


def set_out(facts, net, start, errands, horses, day):
    """The turnpikes and the first stand of a drive; refuses what is not good, in its order."""
    need_net(net)
    need_errands(start, errands)
    need_horses(horses)
    need_day(day)
    left = sorted([errand for errand in errands if errand != start])
    return Turnpikes(facts, net, horses, day), (start, (), tuple(left))


def pays(facts, net, places, horses=1, day=0):
    """The least that a drive along these places pays, None where a road lacks."""
    need_net(net)
    need_way(places)
    need_horses(horses)
    need_day(day)
    turnpikes = Turnpikes(facts, net, horses, day)
    # The dearer choice of roads stays, too, as it may clear later gates.
    paid = {(): 0}
    for place, end in zip(places, places[1:]):
        paid = turnpikes.paid_behind(paid, place, end)
    return min(paid.values(), default=None)


def cheapest(facts, net, start, errands, horses=1, day=0):
    """What the cheapest drive pays and the list of its places, None where none does the errands."""
    turnpikes, first = set_out(facts, net, start, errands, horses, day)
    settled = set()
    queue = [(0, first, (start,))]
    while queue:
        halves, stand, places = heappop(queue)
        if not stand[2]:
            return halves, list(places)
        if stand in settled:
            continue
        settled.add(stand)
        for cost, behind in turnpikes.steps(stand):
            heappush(queue, (halves + cost, behind, (*places, behind[0])))
    return None


def prices(facts, net, start, errands, horses=1, day=0):
    """Each stand to which a drive leads, with the least that is still to be paid there."""
    turnpikes, first = set_out(facts, net, start, errands, horses, day)
    onward = turnpikes.reached(first)
    ahead = {stand: [] for stand in onward}
    for stand, steps in onward.items():
        for cost, behind in steps:
            ahead[behind].append((cost, stand))
    least = {}
    queue = sorted([(0, stand) for stand in onward if not stand[2]])
    while queue:
        halves, stand = heappop(queue)
        if stand in least:
            continue
        least[stand] = halves
        for cost, other in ahead[stand]:
            heappush(queue, (halves + cost, other))
    return sorted(least.items())


def are_stands(stands, errands):
    """Whether all are made of a place, rising gates and rising ones of the errands."""
    for place, cleared, left in stands:
        if not is_good("place", place) or not are_rising("gate", cleared) or not are_rising("place", left):
            return False
        if not all([errand in errands for errand in left]):
            return False
    return True


def good_prices(facts, net, start, errands, told, horses=1, day=0):
    """Whether the told prices are good, so that no drive pays less than that of the first stand."""
    turnpikes, first = set_out(facts, net, start, errands, horses, day)
    stands = [stand for stand, _ in told]
    if not are_stands(stands, errands) or not all([is_number(price) for _, price in told]):
        return False
    known = {stand: price for stand, price in told}
    if stands != sorted(set(stands)) or first not in known:
        return False
    return all([turnpikes.is_good_price(known, stand) for stand in stands])

"""Nets of roads, and ways through them that go round gates."""

from pikeroll.errors import BadNet, BadPlace
from pikeroll.facts import is_good

MOST_ROADS = 12


def need_net(net):
    """Refuse too many roads, and a road with a place or a gate that is none."""
    if len(net) > MOST_ROADS:
        raise BadNet(f"{len(net)} roads are too many")
    for one, other, gate in net:
        if not is_good("place", one) or not is_good("place", other):
            raise BadNet(f"no road: from {one} to {other}")
        if gate is not None and not is_good("gate", gate):
            raise BadNet(f"no gate on a road: {gate}")


def need_place(place):
    """Refuse what is no place."""
    if not is_good("place", place):
        raise BadPlace(f"no place: {place}")


def far_end(road, place):
    """Where one comes from a place by a road, None where the road is not at the place."""
    if road[0] == place:
        return road[1]
    if road[1] == place:
        return road[0]
    return None


def way_round(net, gates, one, other):
    """The places of a way of the fewest roads without these gates, None where there is none."""
    need_net(net)
    need_place(one)
    need_place(other)
    # What is no gate is left out, as True would be found to be the gate 1.
    shut = [gate for gate in gates if is_good("gate", gate)]
    open_roads = [road for road in net if road[2] not in shut]
    ways = {one: [one]}
    come_to = [one]
    at = 0
    while at < len(come_to):
        place = come_to[at]
        at = at + 1
        for road in open_roads:
            end = far_end(road, place)
            if end is not None and end not in ways:
                ways[end] = [*ways[place], end]
                come_to.append(end)
    return ways.get(other)


def barred(net, gates, one, other):
    """Whether each way between two places goes by one of the gates."""
    return way_round(net, gates, one, other) is None

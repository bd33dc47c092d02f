"""The cheapest plan, how many cost as much, and which of them is the earliest."""

from stormgate.plans import height_behind, hour_costs, what_is_wrong
from stormgate.refusals import no_plan_can_be
from stormgate.storm import HIGHEST


class Cheapest:
    """What the cheapest plan costs, how many cost as much, the earliest's doings."""

    def __init__(self, cost, plans, doings):
        self.cost = cost
        self.plans = plans
        self.doings = doings


def best_plan(storm, hours):
    """The cost, how many plans, then the earliest plan; or a refusal."""
    # Backward from the last hour: what is cheapest from a height on doesn't
    # hang on how that height came about, so each is worked out only once.
    rest = [Cheapest(0, 1, []) for height in range(HIGHEST + 1)]
    for hour in reversed(hours):
        rest = cheapest_by_height(storm, hour, rest)
    best = rest[storm.stands]
    if best is None:
        return no_plan_can_be()
    return [best.cost, best.plans] + best.doings


def cheapest_by_height(storm, hour, rest):
    """The cheapest from this hour on, for each height that it can begin with."""
    return [cheapest_from(storm, hour, height, rest) for height in range(HIGHEST + 1)]


def cheapest_from(storm, hour, height, rest):
    """The cheapest from this hour on, or None where no plan can be.

    rest holds the same for the hour behind, by the height that it begins with.
    """
    found = None
    for gate in (0, 1):
        for pumped in range(storm.pumps + 1):
            other = cheapest_with(storm, hour, height, gate, pumped, rest)
            found = cheaper(found, other)
    return found


def cheapest_with(storm, hour, height, gate, pumped, rest):
    """The cheapest that begins with this gate and so much pumped, or None."""
    behind = height_behind(storm, hour, height, gate, pumped)
    if what_is_wrong(storm, behind, pumped) > 0:
        return None
    ahead = rest[behind]
    if ahead is None:
        return None
    cost = hour_costs(storm, hour, height, gate, pumped) + ahead.cost
    return Cheapest(cost, ahead.plans, [gate, pumped] + ahead.doings)


def cheaper(found, other):
    """The cheaper of two, either of which may be None.

    Of two as cheap the plans of both count; found was tried first, so that
    its doings are the earlier.
    """
    if other is None:
        return found
    if found is None or other.cost < found.cost:
        return other
    if other.cost > found.cost:
        return found
    return Cheapest(found.cost, found.plans + other.plans, found.doings)

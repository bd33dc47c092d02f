"""The cheapest plan by other ways than the program's, to compare with."""

from collections import Counter
from itertools import product


def after_hour(storm, hour, height, gate, pumped):
    """The height behind the hour and its cost, or None if anything is wrong."""
    stands, low, high, pumps, width, salt = storm
    rain, sea, price = hour
    if pumped > pumps:
        return None
    height += rain
    salted = 0
    for measure in range(width if gate else 0):
        if height > sea:
            height -= 1
        elif height < sea:
            height += 1
            salted += 1
    height -= pumped
    if height < low or height > high:
        return None
    return height, price * pumped + salt * salted


def by_every_plan(storm, hours):
    """Cost, how many and the earliest, by trying each plan in the plans' order."""
    ways = [(gate, pumped) for gate in (0, 1) for pumped in range(storm[3] + 1)]
    cheapest = None
    for plan in product(ways, repeat=len(hours)):
        cost = cost_of_plan(storm, hours, plan)
        if cost is None:
            continue
        if cheapest is None or cost < cheapest[0]:
            cheapest = [cost, 0] + [number for way in plan for number in way]
        if cost == cheapest[0]:
            cheapest[1] += 1
    return [-6] if cheapest is None else cheapest


def cost_of_plan(storm, hours, plan):
    """What the plan costs, or None if it can't be."""
    height = storm[0]
    cost = 0
    for hour, (gate, pumped) in zip(hours, plan):
        came = after_hour(storm, hour, height, gate, pumped)
        if came is None:
            return None
        height = came[0]
        cost += came[1]
    return cost


def by_counting(storm, hours):
    """Cost and how many, by counting the plans forward by height and cost."""
    reached = Counter({(storm[0], 0): 1})
    for hour in hours:
        further = Counter()
        for (height, cost), plans in reached.items():
            for gate in (0, 1):
                for pumped in range(storm[3] + 1):
                    came = after_hour(storm, hour, height, gate, pumped)
                    if came is not None:
                        further[came[0], cost + came[1]] += plans
        reached = further
    if not reached:
        return [-6]
    cheapest = min(cost for height, cost in reached)
    return [cheapest, sum(plans for (height, cost), plans in reached.items() if cost == cheapest)]

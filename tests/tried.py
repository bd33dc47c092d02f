"""Small storms by chance, and their answers by other ways than the program's."""

from collections import Counter
from itertools import product


def storm_by_chance(chance, pumps):
    """The six numbers of a storm with at most so many pumps."""
    low = chance.randint(0, 12)
    stands = chance.randint(0, 20)
    return (
        stands, low, low + chance.randint(0, 12), chance.randint(0, pumps),
        chance.choice((0, 2, 5, 100)), chance.choice((0, 1, 3)),
    )


def hours_by_chance(chance, most):
    """The three numbers of each of at most so many hours."""
    return [
        (chance.randint(0, 6), chance.randint(0, 25), chance.choice((0, 1, 2, 5)))
        for number in range(chance.randint(0, most))
    ]


def after_hour(storm, hour, height, gate, pumped):
    """The height behind the hour and its cost, or None if anything is wrong."""
    stands, low, high, pumps, width, salt = storm
    rain, sea, price = hour
    if pumped > pumps:
        return None
    height += rain
    salted = 0
    for measure in range(width if gate else 0):
        if height > sea:
            height -= 1
        elif height < sea:
            height += 1
            salted += 1
    height -= pumped
    if height < low or height > high:
        return None
    return height, price * pumped + salt * salted


def plans_of(storm, hours):
    """Each plan that pumps no more than the pumps do, the earlier ahead."""
    ways = [(gate, pumped) for gate in (0, 1) for pumped in range(storm[3] + 1)]
    return product(ways, repeat=len(hours))


def by_every_plan(storm, hours):
    """Cost, how many and the earliest, by trying each plan in the plans' order."""
    return cheapest_of(storm, hours, plans_of(storm, hours))


def shut_by_every_plan(storm, hours):
    """What by_every_plan finds where each plan does what it would with all gates shut."""
    cheapest = None
    for plan in plans_of(storm, hours):
        cost = cost_of_plan(storm, hours, [(0, pumped) for gate, pumped in plan])
        cheapest = with_plan(cheapest, cost, plan)
    return [-6] if cheapest is None else cheapest


def still_by_every_plan(storm, hours):
    """What by_every_plan finds among the plans that pump nothing."""
    plans = [plan for plan in plans_of(storm, hours) if sum(pumped for gate, pumped in plan) == 0]
    return cheapest_of(storm, hours, plans)


def needed_by_every_plan(storm, hours):
    """The highest that the water comes in the plan in which that is the least."""
    stands, low, high, pumps, width, salt = storm
    raised = (stands, low, 60, pumps, width, salt)
    needed = []
    for plan in plans_of(storm, hours):
        heights = heights_of_plan(raised, hours, plan)
        if heights is not None:
            needed.append(max([low, *heights]))
    return [min(needed)] if needed else [-6]


def cheapest_of(storm, hours, plans):
    """Cost, how many and the earliest of these plans, which stand in their order."""
    cheapest = None
    for plan in plans:
        cheapest = with_plan(cheapest, cost_of_plan(storm, hours, plan), plan)
    return [-6] if cheapest is None else cheapest


def with_plan(cheapest, cost, plan):
    """The cheapest so far, with one plan more, or without it where it has no cost."""
    if cost is None or cheapest is not None and cost > cheapest[0]:
        return cheapest
    if cheapest is None or cost < cheapest[0]:
        return [cost, 1] + [number for way in plan for number in way]
    return [cost, cheapest[1] + 1] + cheapest[2:]


def cost_of_plan(storm, hours, plan):
    """What the plan costs, or None if it can't be."""
    height = storm[0]
    cost = 0
    for hour, (gate, pumped) in zip(hours, plan):
        came = after_hour(storm, hour, height, gate, pumped)
        if came is None:
            return None
        height = came[0]
        cost += came[1]
    return cost


def heights_of_plan(storm, hours, plan):
    """The height behind each hour, or None if the plan can't be."""
    heights = []
    height = storm[0]
    for hour, (gate, pumped) in zip(hours, plan):
        came = after_hour(storm, hour, height, gate, pumped)
        if came is None:
            return None
        height = came[0]
        heights.append(height)
    return heights


def by_counting(storm, hours):
    """Cost and how many, by counting the plans forward by height and cost."""
    reached = Counter({(storm[0], 0): 1})
    for hour in hours:
        further = Counter()
        for (height, cost), plans in reached.items():
            for gate in (0, 1):
                for pumped in range(storm[3] + 1):
                    came = after_hour(storm, hour, height, gate, pumped)
                    if came is not None:
                        further[came[0], cost + came[1]] += plans
        reached = further
    if not reached:
        return [-6]
    cheapest = min(cost for height, cost in reached)
    return [cheapest, sum(plans for (height, cost), plans in reached.items() if cost == cheapest)]


def needed_by_rising(storm, hours):
    """The first high, from the low upward, with which any height is reached at the end."""
    stands, low, high, pumps, width, salt = storm
    for raised in range(low, 61):
        reached = {stands}
        for hour in hours:
            came = [
                after_hour((stands, low, raised, pumps, width, salt), hour, height, gate, pumped)
                for height in reached for gate in (0, 1) for pumped in range(pumps + 1)
            ]
            reached = {way[0] for way in came if way is not None}
        if reached:
            return [raised]
    return [-6]

"""What an hour does, what is wrong in it, and whether a plan can be."""

from stormgate.refusals import no_plan_can_be, not_as_told


def runs_in(storm, hour, height, gate):
    """How much runs through the gate: above 0 it comes in, below 0 it runs out.

    The height is the one ahead of the hour: its rain comes before the gate.
    """
    if gate == 0:
        return 0
    raised = height + hour.rain
    if raised >= hour.sea:
        return -min(raised - hour.sea, storm.width)
    return min(hour.sea - raised, storm.width)


def height_behind(storm, hour, height, gate, pumped):
    """How high the water stands behind the hour."""
    return height + hour.rain + runs_in(storm, hour, height, gate) - pumped


def hour_costs(storm, hour, height, gate, pumped):
    """What the hour costs: the power, and the salt water that came in."""
    salt_water = max(runs_in(storm, hour, height, gate), 0)
    return hour.price * pumped + storm.salt * salt_water


def what_is_wrong(storm, behind, pumped):
    """The first wrong of an hour (1 to 3), or 0; behind is its height then."""
    if pumped > storm.pumps:
        return 1
    if behind < storm.low:
        return 2
    if behind > storm.high:
        return 3
    return 0


def plan_is_as_told(hours, doings):
    """Whether there are two numbers for each hour, each gate's 0 or 1."""
    if len(doings) != 2 * len(hours):
        return False
    for number in range(len(hours)):
        if doings[2 * number] > 1:
            return False
    return True


def check_plan(storm, hours, doings):
    """What the plan costs and the height behind each hour, or a refusal."""
    if not plan_is_as_told(hours, doings):
        return not_as_told()
    cost = 0
    height = storm.stands
    heights = []
    for number, hour in enumerate(hours):
        gate = doings[2 * number]
        pumped = doings[2 * number + 1]
        behind = height_behind(storm, hour, height, gate, pumped)
        wrong = what_is_wrong(storm, behind, pumped)
        if wrong > 0:
            return no_plan_can_be() + [number, wrong]
        cost = cost + hour_costs(storm, hour, height, gate, pumped)
        height = behind
        heights.append(height)
    return [cost] + heights

"""How high the water has to be let stand at the least, so that some plan can be."""

from stormgate.plans import height_behind, what_is_wrong
from stormgate.refusals import no_plan_can_be
from stormgate.storm import HIGHEST, with_high


def least_high(storm, hours):
    """The least high with which some plan can be; or a refusal."""
    # A plan has to be let stand as high as the water comes in any of its
    # hours: the least of that over all plans is worked out backward, and
    # behind the last hour nothing more is needed than the low.
    raised = with_high(storm, HIGHEST)
    rest = [storm.low for height in range(HIGHEST + 1)]
    for hour in reversed(hours):
        rest = least_by_height(raised, hour, rest)
    least = rest[storm.stands]
    if least is None:
        return no_plan_can_be()
    return [least]


def least_by_height(storm, hour, rest):
    """What is needed from this hour on, for each height that it can begin with."""
    return [least_from(storm, hour, height, rest) for height in range(HIGHEST + 1)]


def least_from(storm, hour, height, rest):
    """What is needed from this hour on, or None where no plan can be.

    rest holds the same for the hour behind, by the height that it begins with.
    """
    found = None
    for gate in (0, 1):
        for pumped in range(storm.pumps + 1):
            behind = height_behind(storm, hour, height, gate, pumped)
            if what_is_wrong(storm, behind, pumped) > 0 or rest[behind] is None:
                continue
            needed = max(behind, rest[behind])
            if found is None or needed < found:
                found = needed
    return found

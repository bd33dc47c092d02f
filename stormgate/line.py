"""The calls of one line: they are about one storm, and each answers a list."""

from stormgate.cheapest import best_plan
from stormgate.lowest import least_high
from stormgate.plans import check_plan
from stormgate.refusals import no_more_hours, not_as_told
from stormgate.storm import MOST_HOURS, Hour, Storm, hour_is_as_told, storm_is_as_told, with_pumps, with_width


class Line:
    """One storm as far as it's told; a refused call leaves it as it was."""

    def __init__(self):
        self.storm = Storm(0, 0, 0, 0, 0, 0)
        self.hours = []

    def begins(self, numbers):
        """Another storm, without hours, from the six numbers of the call."""
        if not storm_is_as_told(numbers):
            return not_as_told()
        self.storm = Storm(numbers[0], numbers[1], numbers[2], numbers[3], numbers[4], numbers[5])
        self.hours = []
        return [0]

    def hour(self, numbers):
        """One more hour, from the three numbers of the call."""
        if not hour_is_as_told(numbers):
            return not_as_told()
        if len(self.hours) >= MOST_HOURS:
            return no_more_hours()
        self.hours.append(Hour(numbers[0], numbers[1], numbers[2]))
        return [len(self.hours) - 1]

    def check(self, doings):
        """Whether the plan can be, what it costs, and the heights."""
        return check_plan(self.storm, self.hours, doings)

    def best(self):
        """The cheapest plan that can be."""
        return best_plan(self.storm, self.hours)

    def shut(self):
        """The cheapest plan that can be, if nothing ran through the gate."""
        return best_plan(with_width(self.storm, 0), self.hours)

    def still(self):
        """The cheapest plan that can be, if the pumps did nothing."""
        return best_plan(with_pumps(self.storm, 0), self.hours)

    def needs(self):
        """How high the water has to be let stand at the least."""
        return least_high(self.storm, self.hours)

"""What is told of a storm, and how far its numbers go."""

HIGHEST = 60
MOST_HOURS = 6


class Storm:
    """The six numbers that a storm begins with."""

    def __init__(self, stands, low, high, pumps, width, salt):
        self.stands = stands
        self.low = low
        self.high = high
        self.pumps = pumps
        self.width = width
        self.salt = salt


class Hour:
    """The rain of an hour, its sea, and what it costs to pump a measure."""

    def __init__(self, rain, sea, price):
        self.rain = rain
        self.sea = sea
        self.price = price


def with_width(storm, width):
    """The same storm, but for the width of its gate."""
    return Storm(storm.stands, storm.low, storm.high, storm.pumps, width, storm.salt)


def with_pumps(storm, pumps):
    """The same storm, but for what its pumps do."""
    return Storm(storm.stands, storm.low, storm.high, pumps, storm.width, storm.salt)


def with_high(storm, high):
    """The same storm, but for how high the water may stand."""
    return Storm(storm.stands, storm.low, high, storm.pumps, storm.width, storm.salt)


def storm_is_as_told(numbers):
    """Whether the six numbers of begins, in its order, can be a storm's."""
    ends = [HIGHEST, HIGHEST, HIGHEST, 12, 100, 100]
    return none_is_beyond(numbers, ends) and numbers[1] <= numbers[2]


def hour_is_as_told(numbers):
    """Whether the three numbers of hour, in its order, can be an hour's."""
    return none_is_beyond(numbers, [30, 100, 100])


def none_is_beyond(numbers, ends):
    """Whether each number is at most the end that stands at its place."""
    for number, end in zip(numbers, ends):
        if number > end:
            return False
    return True

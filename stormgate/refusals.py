"""The numbers below 0 that refusals answer."""


def not_as_told():
    """A number, or a plan, isn't as told."""
    return [-1]


def no_more_hours():
    """All hours that a storm can have are told."""
    return [-5]


def no_plan_can_be():
    """The plan, or every plan, has something wrong in an hour."""
    return [-6]

"""The refusals: each knows the numbers that are answered in its place."""


class Refused(Exception):
    """What all refusals have: the numbers that a call answers then."""

    def __init__(self, numbers):
        self.numbers = numbers


class TooLong(Refused):
    """A text of more bytes than a text may have."""

    def __init__(self):
        Refused.__init__(self, [-1])


class TooDeep(Refused):
    """A text whose depth is above the greatest that is allowed."""

    def __init__(self):
        Refused.__init__(self, [-6])


class NoNode(Refused):
    """A node is asked for that the tree doesn't have."""

    def __init__(self):
        Refused.__init__(self, [-4])


class Fault(Refused):
    """A text that isn't right: the rule that it breaks, and where."""

    def __init__(self, rule, place):
        Refused.__init__(self, [-2, rule, place])
        self.rule = rule
        self.place = place

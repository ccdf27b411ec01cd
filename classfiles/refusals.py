"""The errors by which a reading or a call ends early."""


class RuleBroken(Exception):
    """The bytes break a rule: which one, and at which place."""

    def __init__(self, rule, place):
        self.rule = rule
        self.place = place


class TooManyBytes(Exception):
    """A row is longer than a file may be."""


class NoFileHeld(Exception):
    """Something is asked of a file while none is held."""


class NotThere(Exception):
    """What is asked for is not in the file that is held."""


def demand(kept, rule, place):
    """Ends the reading with this rule and place unless the rule is kept."""
    if not kept:
        raise RuleBroken(rule, place)

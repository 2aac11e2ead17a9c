"""What one list of calls is about: the facts, what is wanted, and the acts."""

from planestimates.refusals import FULL, WRONG

MOST_FACTS = 8
MOST_ACTS = 12
MOST_COST = 1000
NUMBERS_OF_AN_ACT = 5


class Act:
    """One act: three sets of facts, and what it costs."""

    def __init__(self, needs, brings, takes, cost):
        self.needs = needs
        self.brings = brings
        self.takes = takes
        self.cost = cost

    def may_be_done(self, state):
        return state & self.needs == self.needs

    def behind(self, state):
        # What an act both takes away and brings is so behind it.
        return (state & ~self.takes) | self.brings

    def behind_if_kept(self, state):
        """The state behind the act as if it took nothing away."""
        return state | self.brings


class House:
    """At its beginning there is one fact, nothing is wanted, and there is no act."""

    def __init__(self):
        self.facts = 1
        self.wanted = 0
        self.acts = []

    def begins(self, facts, wanted):
        # How many facts there are is looked at first: no set is held against a count that may be huge.
        if not 1 <= facts <= MOST_FACTS or not is_set_of(facts, wanted):
            return WRONG
        self.facts = facts
        self.wanted = wanted
        self.acts = []
        return 0

    def act(self, told):
        if len(self.acts) == MOST_ACTS:
            return FULL
        if not is_act(self.facts, told):
            return WRONG
        self.acts.append(Act(told[0], told[2], told[3], told[4]))
        return len(self.acts) - 1

    def goal(self, wanted):
        if not is_set_of(self.facts, wanted):
            return WRONG
        self.wanted = wanted
        return 0


def is_set_of(facts, number):
    """Whether all members of a set are among so many facts."""
    return number < (1 << facts)


def is_act(facts, told):
    if len(told) != NUMBERS_OF_AN_ACT:
        return False
    # Nothing may be told that mustn't be so, whether or not there are such facts.
    if told[1] != 0:
        return False
    if not 1 <= told[4] <= MOST_COST:
        return False
    return is_set_of(facts, told[0]) and is_set_of(facts, told[2]) and is_set_of(facts, told[3])

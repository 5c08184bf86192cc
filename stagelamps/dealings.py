"""Dealings: loads dealt to the phases so that the greatest sum of a phase is as small as can be."""

from stagelamps.patches import PHASES


class Dealing:
    def __init__(self, sums, phases):
        self.sums = sums
        self.phases = phases

    # Phases count from 1, the places of a list from 0.
    def with_load(self, load, phase):
        sums = list(self.sums)
        sums[phase - 1] = sums[phase - 1] + load
        return Dealing(sums, self.phases + [phase])

    # A phase that carries as much as a lower one leads to the same sums as that one does, by higher phases.
    def is_needless(self, phase):
        return self.sums[phase - 1] in self.sums[:phase - 1]


def no_loads_dealt():
    return Dealing([0] * PHASES, [])


# The lowest phase stands last, because the last one that waits is taken first.
def next_dealings(dealing, load):
    following = []
    for phase in range(PHASES, 0, -1):
        if not dealing.is_needless(phase):
            following.append(dealing.with_load(load, phase))
    return following


# Some phase carries the greatest load, and some phase carries a third of all or more.
def least_thinkable(loads):
    third = (sum(loads) + PHASES - 1) // PHASES
    return max([third] + loads)


# Dealings come up by their phases, the lower ones first: so of several as even, the first one found is the one to tell.
def deal_evenly(loads):
    enough = least_thinkable(loads)
    best = None
    bound = sum(loads) + 1
    waiting = [no_loads_dealt()]
    while len(waiting) > 0 and bound > enough:
        dealing = waiting.pop()
        if max(dealing.sums) >= bound:
            continue
        dealt = len(dealing.phases)
        if dealt == len(loads):
            best = dealing
            bound = max(dealing.sums)
        else:
            waiting.extend(next_dealings(dealing, loads[dealt]))
    return best

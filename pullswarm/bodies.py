"""The calls on one swarm of bodies, handed in as one list of whole numbers."""

from pullswarm.swarm import Swarm

BEGIN = 0
PUT = 1
SET = 2
STEP = 3
GET = 4

# By a call's number (5 is energy), how many whole numbers stand behind it.
LENGTHS = {0: 2, 1: 7, 2: 8, 3: 2, 4: 1, 5: 0}


def answer_call(swarm, call, handed):
    if call == BEGIN:
        return [swarm.begin(handed[0], handed[1])]
    if call == PUT:
        return [swarm.put(handed)]
    if call == SET:
        return [swarm.set_body(handed[0], handed[1:])]
    if call == STEP:
        return [swarm.step(handed[0], handed[1])]
    if call == GET:
        return swarm.get_body(handed[0])
    return swarm.energy()


def answers(calls):
    """For each call, in order: how many numbers are answered, then these."""
    swarm = Swarm()
    given = []
    at = 0
    while at < len(calls):
        behind = at + 1 + LENGTHS[calls[at]]
        answered = answer_call(swarm, calls[at], calls[at + 1:behind])
        given.append(len(answered))
        given.extend(answered)
        at = behind
    return given

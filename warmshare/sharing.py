"""Sharings: lists of passes (giver, at, taker, into, heat) that tell which step gives how much heat to which."""

# In the place of a stream's number and a step's degree: bought heat as a giver, bought cold as a taker.
BOUGHT = (-1, -1)


# From the warmest step down, heat is bought only where each step that is warm enough has given all it has.
# So never more is bought than lacks above some level, and that much must be bought in any sharing.
def shared(works):
    left = rates_by_step(works[1])
    wanted = rates_by_step(works[2])
    givers = warmest_first(left)
    passes = []
    turn = 0
    for taker in warmest_first(wanted):
        need = wanted[taker]
        while need > 0 and turn < len(givers) and is_warm_enough(works[0], givers[turn], taker):
            giver = givers[turn]
            heat = min(need, left[giver])
            passes.append(giver + taker + (heat,))
            need -= heat
            left[giver] -= heat
            if left[giver] == 0:
                turn += 1
        if need > 0:
            passes.append(BOUGHT + taker + (need,))
    passes.extend([giver + BOUGHT + (left[giver],) for giver in givers[turn:]])
    return sorted(passes)


def looked_through(works, passes):
    if not all([may_pass(works[0], one[0:2], one[2:4], one[4]) for one in passes]):
        return None
    if len(set([one[0:4] for one in passes])) < len(passes):
        return None
    given = heat_by_step([(one[0:2], one[4]) for one in passes])
    gotten = heat_by_step([(one[2:4], one[4]) for one in passes])
    heat = given.pop(BOUGHT, 0)
    cold = gotten.pop(BOUGHT, 0)
    # A step that there is not stands among the given or gotten ones alone, so they differ then too.
    if given != rates_by_step(works[1]) or gotten != rates_by_step(works[2]):
        return None
    return (heat, cold)


# A step is a tuple (number, degree). One without heat is left out: a pass has heat 1 at least.
def rates_by_step(streams):
    rates = {}
    for number, stream in enumerate(streams):
        if stream[2] > 0:
            for degree in range(min(stream[0:2]), max(stream[0:2])):
                rates[(number, degree)] = stream[2]
    return rates


def warmest_first(steps):
    return sorted(list(steps), key=lambda step: step[1], reverse=True)


def is_warm_enough(gap, giver, taker):
    return giver[1] >= taker[1] + gap


def may_pass(gap, giver, taker, heat):
    if heat < 1:
        return False
    if giver == BOUGHT or taker == BOUGHT:
        return giver != taker
    return is_warm_enough(gap, giver, taker)


def heat_by_step(pairs):
    sums = {}
    for step, heat in pairs:
        sums[step] = sums.get(step, 0) + heat
    return sums

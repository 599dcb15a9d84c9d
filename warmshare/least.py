"""The least heat and the least cold that must be bought, and the level by which that is seen."""

from warmshare.levels import lack_above, lacks_above


def least_heat(works):
    return max([0] + lacks_above(works))


def least_cold(works):
    return least_heat(works) - lack_above(works, 0)


def pinch(works):
    heat = least_heat(works)
    if heat == 0:
        return None
    return max([level for level, lack in enumerate(lacks_above(works)) if lack == heat])

"""What is given and what is wanted at a level, and what is lacking above it."""

# Levels are from 0 to 249.
LEVELS = 250


def given_at(works, level):
    return rates_at(hot_bands(works), level)


def wanted_at(works, level):
    return rates_at(cold_bands(works), level)


def lack_above(works, level):
    return heat_above(cold_bands(works), level) - heat_above(hot_bands(works), level)


def lacks_above(works):
    return [lack_above(works, level) for level in range(LEVELS + 1)]


# Told in levels, both kinds of streams are alike: a band (low, high, rate)
# has its rate at each level from low on and below high.
def hot_bands(works):
    return [(goal, start, rate) for start, goal, rate in works[1]]


def cold_bands(works):
    gap = works[0]
    return [(start + gap, goal + gap, rate) for start, goal, rate in works[2]]


def rates_at(bands, level):
    return sum([rate for low, high, rate in bands if low <= level < high])


def heat_above(bands, level):
    return sum([rate * max(0, high - max(low, level)) for low, high, rate in bands])

# Points of the document told a second time, as plainly as can be and without a word of the program.


def by_levels(works):
    gap, hots, colds = works
    given = [0] * 251
    wanted = [0] * 251
    for start, goal, rate in hots:
        for degree in range(goal, start):
            given[degree] += rate
    for start, goal, rate in colds:
        for degree in range(start, goal):
            wanted[degree + gap] += rate
    return given, wanted


def hot_steps(works):
    return {(number, degree): rate
            for number, (start, goal, rate) in enumerate(works[1]) for degree in range(goal, start)}


def cold_steps(works):
    return {(number, degree): rate
            for number, (start, goal, rate) in enumerate(works[2]) for degree in range(start, goal)}


# How much can pass in all from givers to takers, lists of amounts, where fits(k, j) says which may:
# one way after another is looked for, back over what has passed already too.
def most_passed(givers, takers, fits):
    left = list(givers)
    room = list(takers)
    passed = [[0] * len(takers) for _ in givers]

    def way_from(k, seen):
        for j in range(len(takers)):
            if fits(k, j) and j not in seen:
                seen.add(j)
                if room[j] > 0:
                    return [(k, j)]
                for other in range(len(givers)):
                    if passed[other][j] > 0:
                        further = way_from(other, seen)
                        if further:
                            return [(k, j), (other, j)] + further
        return None

    for k in range(len(givers)):
        while left[k] > 0:
            way = way_from(k, set())
            if not way:
                break
            heat = min([left[k], room[way[-1][1]]] + [passed[i][j] for i, j in way[1::2]])
            for place, (i, j) in enumerate(way):
                passed[i][j] += heat if place % 2 == 0 else -heat
            left[k] -= heat
            room[way[-1][1]] -= heat
    return sum(map(sum, passed))


# Point 11: what a sharing buys where it is good, else None.
def bought_by(works, passes):
    hots, colds = hot_steps(works), cold_steps(works)
    given, gotten, ends = {}, {}, []
    for giver, at, taker, into, heat in passes:
        from_fire, to_water = (giver, at) == (-1, -1), (taker, into) == (-1, -1)
        if heat < 1 or from_fire and to_water or (giver, at, taker, into) in ends:
            return None
        if not from_fire and (giver, at) not in hots or not to_water and (taker, into) not in colds:
            return None
        if not from_fire and not to_water and at < into + works[0]:
            return None
        ends.append((giver, at, taker, into))
        given[(giver, at)] = given.get((giver, at), 0) + heat
        gotten[(taker, into)] = gotten.get((taker, into), 0) + heat
    if any(given.get(step, 0) != rate for step, rate in hots.items()):
        return None
    if any(gotten.get(step, 0) != rate for step, rate in colds.items()):
        return None
    return (given.get((-1, -1), 0), gotten.get((-1, -1), 0))


# Point 14 by its first words and the degrees of point 13: can all pass, with just the bought amounts?
def can_pass(works, shop, buying):
    gap = works[0]
    givers = [(degree, rate) for (_, degree), rate in hot_steps(works).items()]
    takers = [(degree, rate) for (_, degree), rate in cold_steps(works).items()]
    fires = [(offer[0], amount) for offer, amount in zip(shop[0], buying[0])]
    waters = [(offer[0], amount) for offer, amount in zip(shop[1], buying[1])]
    hots, colds = len(givers), len(takers)
    givers += fires
    takers += waters

    def fits(k, j):
        warm, cool = givers[k][0], takers[j][0]
        if k < hots:
            return warm >= cool + gap
        return cool + 1 + gap <= warm

    due = sum(amount for _, amount in givers)
    if due != sum(amount for _, amount in takers):
        return False
    return most_passed([one[1] for one in givers], [one[1] for one in takers], fits) == due


# Point 14 by its second words: all that is given and bought less all that is wanted and bought, level by level.
def surpluses(works, shop, buying):
    given, wanted = by_levels(works)
    for (degree, _, _), amount in zip(shop[0], buying[0]):
        given[degree - 1] += amount
    for (degree, _, _), amount in zip(shop[1], buying[1]):
        wanted[degree + works[0]] += amount
    found = [given[250] - wanted[250]]
    for level in range(249, -1, -1):
        found.append(found[-1] + given[level] - wanted[level])
    return found[::-1]


def does(works, shop, buying):
    found = surpluses(works, shop, buying)
    return min(found) >= 0 and found[0] == 0


# Point 16: is the shortage that is told to be seen at its level?
def is_short(works, shop, kind, level):
    given, wanted = by_levels(works)
    fires = sum(most for degree, _, most in shop[0] if degree - 1 >= level)
    waters = sum(most for degree, _, most in shop[1] if degree + works[0] < level)
    if kind == "heat":
        return sum(wanted[level:]) > sum(given[level:]) + fires
    return kind == "cold" and sum(given[:level]) > sum(wanted[:level]) + waters


# Point 15: every rule of the worths that is broken.
def broken_rules(works, shop, buying, worths):
    broken = []
    if len(worths) != 250 or any(type(worth) is not int for worth in worths):
        broken.append("250 whole numbers")
    left = surpluses(works, shop, buying)
    for level in range(1, 250):
        if worths[level - 1] > worths[level]:
            broken.append(("growing", level))
        if left[level] > 0 and worths[level - 1] != worths[level]:
            broken.append(("alike", level))
    offers = [(worths[degree - 1], price, most, amount)
              for (degree, price, most), amount in zip(shop[0], buying[0])]
    offers += [(-worths[degree + works[0]], price, most, amount)
               for (degree, price, most), amount in zip(shop[1], buying[1])]
    for worth, price, most, amount in offers:
        if amount > 0 and price > worth:
            broken.append(("bought too dear", worth, price))
        if amount < most and price < worth:
            broken.append(("not bought though cheap", worth, price))
    return broken

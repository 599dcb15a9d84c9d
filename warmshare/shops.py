"""Shops, where heat and cold are had at several degrees, and the cheapest buying that will do for a works."""

from warmshare.levels import LEVELS, lacks_above


def will_do(works, shop, buying):
    surpluses = surpluses_above(works, shop, buying)
    return min(surpluses) >= 0 and surpluses[0] == 0


def price_of(shop, buying):
    fires = [offer[1] * amount for offer, amount in zip(shop[0], buying[0])]
    waters = [offer[1] * amount for offer, amount in zip(shop[1], buying[1])]
    return sum(fires) + sum(waters)


def cheapest(works, shop):
    short = shortage(works, shop)
    if short is not None:
        return ("short", short[0], short[1])
    lots = lots_of(works, shop)
    drawn = drawn_of(lots, surpluses_above(works, shop, (nothing(shop[0]), mosts(shop[1]))))
    buying = buying_of(shop, drawn)
    worths = worths_of(lots, drawn, surpluses_above(works, shop, buying))
    return ("bought", buying, price_of(shop, buying), worths)


# For each level from 0 to 250: all that is given and bought by fires there and above,
# less all that is wanted and bought by waters.
def surpluses_above(works, shop, buying):
    fires = list(zip(fire_levels(shop), buying[0]))
    waters = list(zip(water_levels(works, shop), buying[1]))
    lacks = lacks_above(works)
    return [amount_above(fires, level) - amount_above(waters, level) - lack for level, lack in enumerate(lacks)]


def amount_above(bought, level):
    return sum([amount for place, amount in bought if place >= level])


def fire_levels(shop):
    return [offer[0] - 1 for offer in shop[0]]


def water_levels(works, shop):
    return [offer[0] + works[0] for offer in shop[1]]


def mosts(offers):
    return [offer[2] for offer in offers]


def nothing(offers):
    return [0 for offer in offers]


# Heat falls short by the level at which even all fires without a water leave too little above,
# cold by the level at which even all waters without a fire leave too much below.
def shortage(works, shop):
    warmest = surpluses_above(works, shop, (mosts(shop[0]), nothing(shop[1])))
    coldest = surpluses_above(works, shop, (nothing(shop[0]), mosts(shop[1])))
    for level in range(LEVELS + 1):
        if warmest[level] < 0:
            return ("heat", level)
        if coldest[0] > coldest[level]:
            return ("cold", level)
    return None


# Where all waters are bought in full at first, giving water back is like buying heat at its level
# for 0 less its price. So each offer is a lot of heat: a tuple (level, price, most), the fires' ahead.
def lots_of(works, shop):
    fires = [(level, offer[1], offer[2]) for level, offer in zip(fire_levels(shop), shop[0])]
    waters = [(level, -offer[1], offer[2]) for level, offer in zip(water_levels(works, shop), shop[1])]
    return fires + waters


def buying_of(shop, drawn):
    count = len(shop[0])
    waters = [offer[2] - heat for offer, heat in zip(shop[1], drawn[count:])]
    return (drawn[:count], waters)


# What lacks at a level and above must be drawn there or above, and what is left of a lot can still be drawn
# for each lower level. So drawing the cheapest, and no more than lacks, is never regretted.
def drawn_of(lots, surpluses):
    drawn = [0 for lot in lots]
    by_price = sorted(range(len(lots)), key=lambda place: lots[place][1])
    for level in range(LEVELS - 1, -1, -1):
        need = -surpluses[level] - sum(drawn)
        for number in by_price:
            lot = lots[number]
            if need > 0 and lot[0] >= level:
                heat = min(need, lot[2] - drawn[number])
                drawn[number] += heat
                need -= heat
    return drawn


# The least worths of all that keep to the rules and aren't below the cheapest lot: heat is worth as much
# as each drawn lot at its level or below costs, and levels are alike as far up as heat is left to pass down.
def worths_of(lots, drawn, surpluses):
    least = min([lot[1] for lot in lots], default=0)
    worths = []
    highest = LEVELS
    for level in range(LEVELS - 1, -1, -1):
        if surpluses[level + 1] == 0:
            highest = level
        prices = [lot[1] for lot, heat in zip(lots, drawn) if heat > 0 and lot[0] <= highest]
        worths.append(max([least] + prices))
    return list(reversed(worths))

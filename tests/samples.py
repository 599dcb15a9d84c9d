def some_streams(source):
    streams = []
    for _ in range(source.randint(0, 12)):
        low, high = sorted(source.sample(range(201), 2))
        streams.append((low, high, source.randint(1, 10 ** source.randint(0, 9))))
    return streams


def some_works(source):
    hots = [(high, low, rate) for low, high, rate in some_streams(source)]
    return (source.randint(0, 50), hots, some_streams(source))


# Few streams over few degrees, so that a plain search comes to an end and ties are often met.
def small_streams(source):
    streams = []
    for _ in range(source.randint(0, 3)):
        low, high = sorted(source.sample(range(5), 2))
        streams.append((low, high, source.randint(1, 3)))
    return streams


def small_works(source):
    hots = [(high, low, rate) for low, high, rate in small_streams(source)]
    return (source.randint(0, 3), hots, small_streams(source))


# No water takes heat from steps below the gap: without them some buying will do more often.
def without_low_ones(works):
    return (works[0], [stream for stream in works[1] if stream[1] >= works[0]], works[2])


def some_offers(source, degrees, greatest):
    prices = [0, 1, 2, 1000000, source.randint(0, 1000000)]
    mosts = [0, 10 ** 15, greatest, source.randint(0, greatest)]
    return [(source.choice(degrees), source.choice(prices), source.choice(mosts))
            for _ in range(source.randint(0, 6))]


def some_shop(source, greatest):
    fires = some_offers(source, [250, source.randint(200, 250), source.randint(1, 250)], greatest)
    waters = some_offers(source, [0, source.randint(0, 50), source.randint(0, 199)], greatest)
    return (fires, waters)


def small_offers(source, first, last):
    return [(source.randint(first, last), source.randint(0, 3), source.randint(0, 6))
            for _ in range(source.randint(0, 2))]


def small_shop(source):
    return (small_offers(source, 3, 9), small_offers(source, 0, 2))

def some_streams(source):
    streams = []
    for _ in range(source.randint(0, 12)):
        low, high = sorted(source.sample(range(201), 2))
        streams.append((low, high, source.randint(1, 10 ** source.randint(0, 9))))
    return streams


def some_works(source):
    hots = [(high, low, rate) for low, high, rate in some_streams(source)]
    return (source.randint(0, 50), hots, some_streams(source))

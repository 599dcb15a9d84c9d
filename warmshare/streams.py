"""Streams that come and go, and how they change the least heat."""

from warmshare.errors import Full, NoStream
from warmshare.least import least_cold, least_heat, pinch
from warmshare.works import MOST_OF_A_KIND, check_stream


class Streams:
    # Numbers only grow, so each dict holds its streams in the order of their numbers.
    def __init__(self, gap):
        self.gap = gap
        self.hots = {}
        self.colds = {}
        self.spent = 0

    def put_hot(self, start, goal, rate):
        return self.put_in("hot", (start, goal, rate))

    def put_cold(self, start, goal, rate):
        return self.put_in("cold", (start, goal, rate))

    def take_out(self, number):
        streams = self.home_of(number)
        return streams.pop(number)

    def works(self):
        return (self.gap, list(self.hots.values()), list(self.colds.values()))

    def least(self):
        works = self.works()
        return (least_heat(works), least_cold(works), pinch(works))

    def change_with(self, kind, start, goal, rate):
        stream = (start, goal, rate)
        self.check_new(kind, stream)
        works = self.works()
        if kind == "hot":
            works[1].append(stream)
        else:
            works[2].append(stream)
        return self.change_to(works)

    def change_without(self, number):
        self.home_of(number)
        hots = [stream for own, stream in self.hots.items() if own != number]
        colds = [stream for own, stream in self.colds.items() if own != number]
        return self.change_to((self.gap, hots, colds))

    def put_in(self, kind, stream):
        self.check_new(kind, stream)
        streams = self.all_of(kind)
        self.spent += 1
        streams[self.spent] = stream
        return self.spent

    def check_new(self, kind, stream):
        if len(self.all_of(kind)) >= MOST_OF_A_KIND:
            raise Full(f"there are {MOST_OF_A_KIND} {kind} streams in")
        check_stream(kind, stream)

    def all_of(self, kind):
        if kind == "hot":
            return self.hots
        return self.colds

    def home_of(self, number):
        if number in self.hots:
            return self.hots
        if number in self.colds:
            return self.colds
        raise NoStream(f"no stream of the number {number} is in")

    def change_to(self, works):
        return least_heat(works) - least_heat(self.works())

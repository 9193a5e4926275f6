"""The calls on the ways from now answered slowly: by going through ways one by one."""


def later_pairs(marks, place, direction):
    """All pairs that follow a pair."""
    step = direction - 1
    places = [place + step] if place % 2 or step == 0 else [place, place + step]
    places = [each for each in places if 0 <= each <= 2 * marks]
    return [(each, turned) for each in places for turned in range(3) if abs(turned - direction) <= 1]


class SlowWays:
    """All ways from some states of now, over the states that fit; a state is a list as it is told."""

    def __init__(self, marks, fitting, current):
        self.fitting = [tuple(state) for state in fitting]
        self.current = [tuple(state) for state in current]
        self.after = {state: [later for later in self.fitting if self.follows(marks, state, later)]
                      for state in self.fitting}

    def go_through(self):
        """Goes through the ways from now, which are kept for all that is asked."""
        self.walked = list(self.walk(self.current))

    @staticmethod
    def follows(marks, state, later):
        return all((later[2 * i], later[2 * i + 1]) in later_pairs(marks[i], state[2 * i], state[2 * i + 1])
                   for i in range(len(marks)))

    def walk(self, starts):
        """Each way from the starts up to where it first has a state twice: what goes on for ever does so."""
        waiting = [(state,) for state in starts]
        while waiting:
            way = waiting.pop()
            yield way
            if way[-1] not in way[:-1]:
                waiting += [way + (later,) for later in self.after[way[-1]]]

    def has_end(self, way):
        """Whether a way goes on for ever, its last state being there twice, or nothing follows at its end."""
        return way[-1] in way[:-1] or not self.after[way[-1]]

    def exactly(self, moments):
        """All ways of just so many moments."""
        ways = [(state,) for state in self.current]
        for each in range(moments):
            ways = [way + (later,) for way in ways for later in self.after[way[-1]]]
        return ways

    def fewest(self, wanted):
        """The fewest moments of a way that is wanted, or -33."""
        return [min((len(way) - 1 for way in self.walked if wanted(way)), default=-33)]

    def places(self, states, i):
        found = sorted({state[2 * i] for state in states})
        return [len(found)] + found

    def ahead(self, k):
        return [len({way[-1] for way in self.exactly(k)})]

    def later(self, i, k):
        return self.places([way[-1] for way in self.exactly(k)], i)

    def ever(self, i):
        return self.places([way[-1] for way in self.walked], i)

    def reach(self):
        return [len({way[-1] for way in self.walked})]

    def may(self, i, p):
        return self.fewest(lambda way: way[-1][2 * i] == p)

    def path(self, i, p):
        there = [way for way in self.walked if way[-1][2 * i] == p]
        if not there:
            return [-33]
        way = min(there, key=lambda way: (len(way), way))
        return [len(way) - 1] + [part for state in way for part in state]

    def off(self, i, p):
        """The ways in none of whose states i is at p."""
        return [way for way in self.walked if all(state[2 * i] != p for state in way)]

    def must(self, i, p):
        if any(self.has_end(way) for way in self.off(i, p)):
            return [-33]
        moments = 0
        while not all(any(state[2 * i] == p for state in way) for way in self.exactly(moments)):
            moments += 1
        return [moments]

    def avoid(self, i, p):
        return [int(any(way[-1] in way[:-1] for way in self.off(i, p)))]

    def both(self, i, p, u, q):
        return self.fewest(lambda way: way[-1][2 * i] == p and way[-1][2 * u] == q)

    def only(self, i, p, u, q):
        return self.fewest(lambda way: way[-1][2 * i] == p and all(state[2 * u] != q for state in way))

    def rest(self):
        return self.fewest(lambda way: all(direction == 1 for direction in way[-1][1::2]))

    def stuck(self):
        return self.fewest(lambda way: not self.after[way[-1]])

    def round_way(self):
        reached = sorted({way[-1] for way in self.walked})
        rounds = [len(way) - 1 for state in reached for way in self.walk([state])
                  if way[0] == way[-1] and any(other != state for other in way)]
        return [min(rounds, default=-33)]

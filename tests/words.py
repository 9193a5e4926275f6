"""The document's words taken literally, call by call: what the program's answers are compared with."""

import itertools


def side(place, mark):
    """-1 below a mark, 0 at it, 1 above it."""
    return (place > 2 * mark + 1) - (place < 2 * mark + 1)


def sum_may_have(one, other):
    """The steps that a sum may have, of two steps of -1, 0 and 1."""
    return {one + other} if 0 in (one, other) else ({one} if one == other else {-1, 0, 1})


# By the name of a rule: whether it holds, of the places, the steps (-1, 0, 1) and its numbers.
HOLDS = {
    "more": lambda place, step, a, b: step[a] == step[b],
    "less": lambda place, step, a, b: step[a] == -step[b],
    "sum_of": lambda place, step, a, b, c: step[c] in sum_may_have(step[a], step[b]),
    "rate": lambda place, step, a, j, b: step[b] == side(place[a], j),
    "still": lambda place, step, a: step[a] == 0,
    "meet": lambda place, step, a, j, b, k: side(place[a], j) == side(place[b], k),
}


class Words:
    """The document's words taken literally, with no thought of speed."""

    def __init__(self):
        self.marks = None
        self.known = None

    def fits(self, state, rules):
        place, step = state[0::2], [direction - 1 for direction in state[1::2]]
        return all(HOLDS[name](place, step, *given) for name, given in rules)

    def fitting(self, rules):
        ranges = [part for marks in self.marks for part in (range(2 * marks + 1), range(3))]
        return [list(state) for state in itertools.product(*ranges) if self.fits(state, rules)]

    def renew(self):
        self.current = self.fitting(self.rules)

    def refused_rule(self, name, given):
        quantities = given if name not in ("rate", "meet") else [given[0], given[2]]
        if any(quantity >= len(self.marks) for quantity in quantities):
            return -2
        if any(one == other for one, other in itertools.combinations(quantities, 2)):
            return -22
        if name in ("rate", "meet") and given[1] >= self.marks[given[0]]:
            return -22
        if name == "meet" and given[3] >= self.marks[given[2]]:
            return -22
        if len(self.rules) == 8:
            return -28
        return None if self.fitting(self.rules + [(name, given)]) else -33

    def follows(self, state, later):
        for i, marks in enumerate(self.marks):
            place, direction, behind, turned = state[2 * i], state[2 * i + 1], later[2 * i], later[2 * i + 1]
            step = direction - 1
            may = {place + step} if place % 2 or step == 0 else {place, place + step} & set(range(2 * marks + 1))
            if behind not in may or {direction, turned} == {0, 2}:
                return False
        return True

    def narrowed(self, states):
        if not states:
            return [-33]
        self.current = states
        return [len(states)]

    def call(self, name, given):
        if name == "begin":
            self.marks, self.rules, self.current = [], [], [[]]
            return [0]
        if self.marks is None:
            return [-11]
        return getattr(self, "call_" + name, lambda *given: self.call_rule(name, given))(*given)

    def call_rule(self, name, given):
        refused = self.refused_rule(name, given)
        if refused is not None:
            return [refused]
        self.rules.append((name, given))
        self.renew()
        return [len(self.rules) - 1]

    def call_quantity(self, marks):
        if marks > 3:
            return [-22]
        product = 2 * marks + 1
        for other in self.marks:
            product *= 2 * other + 1
        if len(self.marks) == 4 or product > 30:
            return [-28]
        self.marks.append(marks)
        self.renew()
        return [len(self.marks) - 1]

    def call_drop(self, number):
        if number >= len(self.rules):
            return [-2]
        self.rules.pop(number)
        self.renew()
        return [len(self.rules)]

    def call_all_states(self):
        return self.narrowed(self.fitting(self.rules))

    def call_from_state(self, *state):
        if list(state) not in self.fitting([]):
            return [-22]
        return self.narrowed([list(state)]) if self.fits(state, self.rules) else [-33]

    def call_seen(self, i, p):
        if i >= len(self.marks):
            return [-2]
        if p > 2 * self.marks[i]:
            return [-22]
        return self.narrowed([state for state in self.current if state[2 * i] == p])

    def call_goes(self, i, d):
        if i >= len(self.marks):
            return [-2]
        if d > 2:
            return [-22]
        return self.narrowed([state for state in self.current if state[2 * i + 1] == d])

    def call_tick(self):
        fitting = self.fitting(self.rules)
        if len(fitting) > 120:
            return [-28]
        return self.narrowed(sorted(later for later in fitting if any(self.follows(s, later) for s in self.current)))

    def call_now(self):
        return [len(self.current)]

    def call_one(self, k):
        return [len(self.marks)] + sorted(self.current)[k] if k < len(self.current) else [-33]

    def call_places(self, i):
        if i >= len(self.marks):
            return [-2]
        return self.places_of(self.current, i)

    def call_state(self):
        return [len(self.marks), len(self.rules), len(self.fitting(self.rules)), len(self.current)] + self.marks

    def places_of(self, states, i):
        places = [place for place in range(2 * self.marks[i] + 1) if any(state[2 * i] == place for state in states)]
        return [len(places)] + places

    def refused(self, quantities=(), places=(), k=0):
        """The refusal of a call on the ways, if one is due."""
        if any(i >= len(self.marks) for i in quantities):
            return -2
        self.learn()
        if self.after is None:
            return -28
        if k > 40 or any(p > 2 * self.marks[i] for i, p in zip(quantities, places)):
            return -22
        return None

    def learn(self):
        """Keeps in `after` what follows each state; None where too many fit."""
        known = repr((self.marks, self.rules))
        if self.known != known:
            fitting = [tuple(state) for state in self.fitting(self.rules)]
            self.known, self.after = known, None
            if len(fitting) <= 120:
                self.after = {state: [later for later in fitting if self.follows(state, later)] for state in fitting}

    def moment_by_moment(self, barred=lambda state: False):
        """The states behind 0, 1, 2 .. moments, by ways that keep off what is barred."""
        layer = {tuple(state) for state in self.current if not barred(state)}
        for moment in range(len(self.after) + 1):
            yield layer
            layer = {later for state in layer for later in self.after[state] if not barred(later)}

    def first_moment(self, wanted, barred=lambda state: False):
        for moments, layer in enumerate(self.moment_by_moment(barred)):
            if any(wanted(state) for state in layer):
                return [moments]
        return [-33]

    def behind(self, k):
        layer = {tuple(state) for state in self.current}
        for moment in range(k):
            layer = {later for state in layer for later in self.after[state]}
        return layer

    def call_ahead(self, k):
        refused = self.refused(k=k)
        return [len(self.behind(k))] if refused is None else [refused]

    def call_later(self, i, k):
        refused = self.refused([i], k=k)
        return self.places_of(self.behind(k), i) if refused is None else [refused]

    def call_ever(self, i):
        refused = self.refused([i])
        return self.places_of(set().union(*self.moment_by_moment()), i) if refused is None else [refused]

    def call_reach(self):
        refused = self.refused()
        return [len(set().union(*self.moment_by_moment()))] if refused is None else [refused]

    def call_may(self, i, p):
        refused = self.refused([i], [p])
        return self.first_moment(lambda state: state[2 * i] == p) if refused is None else [refused]

    def call_path(self, i, p):
        refused = self.refused([i], [p])
        if refused is not None:
            return [refused]
        ways = [[tuple(state)] for state in self.current]
        for moments in range(len(self.after) + 1):
            there = [way for way in ways if way[-1][2 * i] == p]
            if there:
                return [moments] + [number for state in min(there) for number in state]
            longer = sorted(way + [later] for way in ways for later in self.after[way[-1]])
            ways = list({way[-1]: way for way in reversed(longer)}.values())
        return [-33]

    def call_must(self, i, p):
        refused = self.refused([i], [p])
        if refused is not None:
            return [refused]
        for moments, layer in enumerate(self.moment_by_moment(lambda state: state[2 * i] == p)):
            if not layer:
                return [moments]
            if any(not self.after[state] for state in layer):
                return [-33]
        return [-33]

    def call_avoid(self, i, p):
        refused = self.refused([i], [p])
        if refused is not None:
            return [refused]
        return [int(all(layer for layer in self.moment_by_moment(lambda state: state[2 * i] == p)))]

    def call_both(self, i, p, u, q):
        refused = self.refused([i, u], [p, q])
        if refused is not None:
            return [refused]
        return self.first_moment(lambda state: state[2 * i] == p and state[2 * u] == q)

    def call_only(self, i, p, u, q):
        refused = self.refused([i, u], [p, q])
        if refused is not None:
            return [refused]
        return self.first_moment(lambda state: state[2 * i] == p, lambda state: state[2 * u] == q)

    def call_rest(self):
        refused = self.refused()
        return self.first_moment(lambda state: set(state[1::2]) <= {1}) if refused is None else [refused]

    def call_stuck(self):
        refused = self.refused()
        return self.first_moment(lambda state: not self.after[state]) if refused is None else [refused]

    def call_round_way(self):
        refused = self.refused()
        if refused is not None:
            return [refused]
        rounds = [self.round_from(state) for state in set().union(*self.moment_by_moment())]
        return [min((moments for moments in rounds if moments), default=-33)]

    def round_from(self, first):
        """The fewest moments of a way from a state to itself that has another one between."""
        layer = {(first, False)}
        for moments in range(1, len(self.after) + 1):
            layer = {(later, other or later != first) for state, other in layer for later in self.after[state]}
            if (first, True) in layer:
                return moments
        return None

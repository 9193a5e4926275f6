"""Small plants whose ways can be told by eye, and those about a hundred and twenty states."""

# One quantity with one mark, without rules: nine states.
FREE = ("begin", "quantity 1")

# Quantity 0 is held at its mark: steady it may go on so, fall or rise; nothing follows where it falls or rises.
HELD = ("begin", "quantity 1", "quantity 0", "rate 0 0 1", "still 1")

# 1 is how fast 0 changes, and 0, the other way round, how fast 1 changes: the places tell the state. They go round
# their marks in eight states (EAST to SOUTH_EAST, below), four of which follow themselves too; at both marks all rests.
WHEEL = ("begin", "quantity 1", "quantity 1", "quantity 0", "rate 1 0 0", "rate 0 0 2", "less 1 2")
EAST = [2, 1, 1, 0, 0, 2]
SOUTH_EAST = [2, 0, 0, 0, 0, 2]
SOUTH = [1, 0, 0, 1, 0, 1]
SOUTH_WEST = [0, 0, 0, 2, 0, 0]
WEST = [0, 1, 1, 2, 0, 0]
NORTH_WEST = [0, 2, 2, 2, 0, 0]
NORTH = [1, 2, 2, 1, 0, 1]
NORTH_EAST = [2, 2, 2, 0, 0, 2]
MIDDLE = [1, 1, 1, 1, 0, 1]
CIRCLE = [EAST, SOUTH_EAST, SOUTH, SOUTH_WEST, WEST, NORTH_WEST, NORTH, NORTH_EAST]

# 2 is how fast 1 changes, 1 how fast 0 does: 81 states. If 2 rises from its mark while the others stand at theirs, a
# moment later 1 rises from its mark, then 0.
CHAIN = ("begin", "quantity 1", "quantity 1", "quantity 1", "rate 2 0 1", "rate 1 0 0")
PULLED = [1, 1, 1, 1, 1, 2]

# 1 is how fast 0 changes, and 0 is held at its mark: if 1 rises from its mark, 0 rises from its own a moment later,
# in two states, and nothing follows these.
ENDING = ("begin", "quantity 1", "quantity 1", "quantity 0", "rate 1 0 0", "rate 0 0 2", "still 2")
DOOMED = [1, 1, 1, 2, 0, 1]

# Both quantities come to their marks together.
TOGETHER = ("begin", "quantity 1", "quantity 1", "more 0 1", "meet 0 0 1 0")

# 0 and 1 are how fast one another change: the places tell the state, of which there are 15. If 0 rises from its mark
# while 1 is steady at one of its own, 1 rises from there a moment later.
MUTUAL = ("begin", "quantity 1", "quantity 2", "rate 0 0 1", "rate 1 0 0")

# 17 ways of the directions and 7 places: 119. No quantities and rules make it 120.
FITTING_119 = ("begin", "quantity 3", "quantity 0", "quantity 0", "quantity 0", "sum_of 0 1 2", "sum_of 0 2 3")
# 11 ways of the directions and 11 of the places: 121.
FITTING_121 = ("begin", "quantity 2", "quantity 2", "quantity 0", "quantity 0", "more 0 1", "sum_of 0 2 1",
               "sum_of 0 2 3", "meet 0 0 1 0")

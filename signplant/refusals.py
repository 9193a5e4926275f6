"""The numbers that a refused call is answered with."""

NO_SUCH = -2
NOT_BEGUN = -11
NOT_RIGHT = -22
TOO_MANY = -28
CANNOT_BE = -33

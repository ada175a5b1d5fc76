"""The numbers that are answered where a call is refused."""

NONE_THERE = -2
NOT_THE_SAME = -6
TOWER_STANDS = -17
NO_SUCH = -22
NO_WAY = -33
NOT_BEGUN = -61
NO_TOWN = -71

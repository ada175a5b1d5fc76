"""The numbers that are answered where a call is refused."""

NONE_THERE = -2
UNSURE = -6
NO_TOWER = -12
TOWER_STANDS = -17
NO_SUCH = -22
NO_WAY = -33
NOT_BEGUN = -61
NO_TOWN = -71

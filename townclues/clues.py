"""The calls that go by clues: which can be spared, and which the town as it stands would have."""

from townclues.model import SIDES, Town, count_seen, line_towers
from townclues.refusals import NO_TOWER, NO_WAY
from townclues.ways import town_ways


def answer_spare(town):
    if len(town_ways(town)) == 0:
        return [NO_WAY]
    told = [(place, clue) for place, clue in enumerate(town.clues) if clue > 0]
    needed = needed_places(town, told)
    spared = [place for place, clue in told if place not in needed]
    return [len(spared)] + spared


def needed_places(town, told):
    """Where the clues stand without which there would be more ways.

    A full town that goes against one told clue alone is no way, but would be one without that clue.
    """
    full = Town()
    full.n = town.n
    needed = []
    for cells in ways_without_clues(town):
        full.cells = cells
        needed.extend(only_wrong(full, told))
    return needed


def ways_without_clues(town):
    bare = Town()
    bare.n = town.n
    bare.cells = list(town.cells)
    bare.clues = [0] * len(town.clues)
    return town_ways(bare)


def only_wrong(full, told):
    """Where the one told clue stands that isn't seen so; nothing if there is none, or more than one."""
    wrong = []
    for place, clue in told:
        if count_seen(line_towers(full, place // full.n, place % full.n)) != clue:
            if len(wrong) > 0:
                return []
            wrong.append(place)
    return wrong


def answer_views(town):
    if 0 in town.cells:
        return [NO_TOWER]
    views = town_views(town)
    return [len(views)] + views


def answer_ask(town):
    if 0 in town.cells:
        return [NO_TOWER]
    town.clues = town_views(town)
    return [len(town.clues)]


def town_views(town):
    """How many are seen from each side of each line, by side times n, and i."""
    views = []
    for side in range(SIDES):
        views.extend([count_seen(line_towers(town, side, i)) for i in range(town.n)])
    return views

"""The changes that can be taken back and done again."""

from townclues.refusals import NONE_THERE

MOST_CHANGES = 20


def moment_of(town):
    """Towers and clues as they are, as copies, since the town's own lists are changed in place."""
    return (list(town.cells), list(town.clues))


def bring_to(town, moment):
    town.cells = list(moment[0])
    town.clues = list(moment[1])


def remember(town, before):
    """A change was made; before is how it was ahead of it."""
    town.earlier.append(before)
    if len(town.earlier) > MOST_CHANGES:
        town.earlier.pop(0)
    town.later = []


def answer_back(town):
    if len(town.earlier) == 0:
        return [NONE_THERE]
    town.later.append(moment_of(town))
    bring_to(town, town.earlier.pop())
    return [len(town.earlier)]


def answer_again(town):
    if len(town.later) == 0:
        return [NONE_THERE]
    # No more can come here than were taken back, so these stay within the bound by themselves.
    town.earlier.append(moment_of(town))
    bring_to(town, town.later.pop())
    return [len(town.later)]

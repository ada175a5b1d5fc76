"""The way in: the calls on one town, one behind another, and what is answered."""

from townclues.changes import answer_build, answer_tear, answer_tell
from townclues.looks import answer_at, answer_clash, answer_clue, answer_done, answer_seen
from townclues.model import Town
from townclues.reading import answer_start
from townclues.refusals import NOT_BEGUN
from townclues.ways import answer_could, answer_count, answer_known, answer_nth, answer_sure

START = 0
BUILD = 1
TEAR = 2
TELL = 3
AT = 4
SEEN = 5
CLUE = 6
CLASH = 7
DONE = 8
COUNT = 9
NTH = 10
SURE = 11
COULD = 12
KNOWN = 13

# By a call's number, how many whole numbers stand behind it; a start also has a row, so it is read by itself.
NUMBERS_BEHIND = (1, 2, 1, 3, 1, 2, 2, 0, 0, 0, 1, 1, 1, 0)


def answers(calls):
    """Of each call, in order: how many numbers are answered, then these."""
    town = Town()
    answered = []
    place = 0
    while place < len(calls):
        call = calls[place]
        if call == START:
            behind = place + 3 + calls[place + 2]
            answer = answer_start(town, calls[place + 1], calls[place + 3:behind])
        else:
            behind = place + 1 + NUMBERS_BEHIND[call]
            answer = answer_call(town, call, calls[place + 1:behind])
        answered.append(len(answer))
        answered.extend(answer)
        place = behind
    return answered


def answer_call(town, call, given):
    """The answer to any call but start."""
    if town.n == 0:
        return [NOT_BEGUN]
    if call <= TELL:
        return answer_change(town, call, given)
    if call <= DONE:
        return answer_look(town, call, given)
    return answer_of_ways(town, call, given)


def answer_change(town, call, given):
    if call == BUILD:
        return answer_build(town, given[0], given[1])
    if call == TEAR:
        return answer_tear(town, given[0])
    return answer_tell(town, given[0], given[1], given[2])


def answer_look(town, call, given):
    if call == AT:
        return answer_at(town, given[0])
    if call == SEEN:
        return answer_seen(town, given[0], given[1])
    if call == CLUE:
        return answer_clue(town, given[0], given[1])
    if call == CLASH:
        return answer_clash(town)
    return answer_done(town)


def answer_of_ways(town, call, given):
    if call == COUNT:
        return answer_count(town)
    if call == NTH:
        return answer_nth(town, given[0])
    if call == SURE:
        return answer_sure(town, given[0])
    if call == COULD:
        return answer_could(town, given[0])
    return answer_known(town)

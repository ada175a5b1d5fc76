"""The way in: the calls on one town, one behind another, and what is answered."""

from townclues.changes import answer_build, answer_clear, answer_fill, answer_tear, answer_tell
from townclues.clues import answer_ask, answer_spare, answer_views
from townclues.history import answer_again, answer_back, moment_of, remember
from townclues.lines import answer_hint, answer_line, answer_solve
from townclues.looks import answer_at, answer_clash, answer_clue, answer_done, answer_seen, answer_state
from townclues.model import Town
from townclues.reading import answer_start
from townclues.refusals import NOT_BEGUN
from townclues.turning import answer_mirror, answer_turn
from townclues.ways import answer_could, answer_count, answer_known, answer_nth, answer_sure
from townclues.writing import answer_text

START = 0
BUILD = 1
TEAR = 2
TELL = 3
AT = 4
SEEN = 5
CLUE = 6
CLASH = 7
DONE = 8
COUNT = 9
NTH = 10
SURE = 11
COULD = 12
KNOWN = 13
LINE = 14
HINT = 15
SOLVE = 16
FILL = 17
SPARE = 18
VIEWS = 19
CLEAR = 20
ASK = 21
TURN = 22
MIRROR = 23
TEXT = 24
BACK = 25
AGAIN = 26
STATE = 27

# By a call's number, how many whole numbers stand behind it; a start also has a row, so it is read by itself.
NUMBERS_BEHIND = (1, 2, 1, 3, 1, 2, 2, 0, 0, 0, 1, 1, 1, 0, 2, 0, 0, 1, 0, 0, 0, 0, 0, 0, 0, 0, 0, 0)


def answers(calls):
    """Of each call, in order: how many numbers are answered, then these."""
    town = Town()
    answered = []
    place = 0
    while place < len(calls):
        call = calls[place]
        if call == START:
            behind = place + 3 + calls[place + 2]
            answer = answer_start(town, calls[place + 1], calls[place + 3:behind])
        else:
            behind = place + 1 + NUMBERS_BEHIND[call]
            answer = answer_call(town, call, calls[place + 1:behind])
        answered.append(len(answer))
        answered.extend(answer)
        place = behind
    return answered


def answer_call(town, call, given):
    """The answer to any call but start."""
    if town.n == 0:
        return [NOT_BEGUN]
    if call == BACK:
        return answer_back(town)
    if call == AGAIN:
        return answer_again(town)
    if call in (BUILD, TEAR, TELL, SOLVE, FILL, CLEAR, ASK, TURN, MIRROR):
        return answer_change(town, call, given)
    if call in (COUNT, NTH, SURE, COULD, KNOWN, SPARE):
        return answer_of_ways(town, call, given)
    return answer_look(town, call, given)


def answer_change(town, call, given):
    before = moment_of(town)
    if call in (BUILD, TEAR, TELL, FILL):
        answer = answer_given_change(town, call, given)
    else:
        answer = answer_whole_change(town, call)
    if answer[0] >= 0:
        remember(town, before)
    return answer


def answer_given_change(town, call, given):
    if call == BUILD:
        return answer_build(town, given[0], given[1])
    if call == TEAR:
        return answer_tear(town, given[0])
    if call == TELL:
        return answer_tell(town, given[0], given[1], given[2])
    return answer_fill(town, given[0])


def answer_whole_change(town, call):
    """A change that goes over the whole town and is given nothing."""
    if call == SOLVE:
        return answer_solve(town)
    if call == CLEAR:
        return answer_clear(town)
    if call == ASK:
        return answer_ask(town)
    if call == TURN:
        return answer_turn(town)
    return answer_mirror(town)


def answer_of_ways(town, call, given):
    if call == COUNT:
        return answer_count(town)
    if call == NTH:
        return answer_nth(town, given[0])
    if call == SURE:
        return answer_sure(town, given[0])
    if call == COULD:
        return answer_could(town, given[0])
    if call == KNOWN:
        return answer_known(town)
    return answer_spare(town)


def answer_look(town, call, given):
    if call == AT:
        return answer_at(town, given[0])
    if call == SEEN:
        return answer_seen(town, given[0], given[1])
    if call == CLUE:
        return answer_clue(town, given[0], given[1])
    if call == LINE:
        return answer_line(town, given[0], given[1])
    if call == CLASH:
        return answer_clash(town)
    if call == DONE:
        return answer_done(town)
    if call == HINT:
        return answer_hint(town)
    if call == VIEWS:
        return answer_views(town)
    if call == TEXT:
        return answer_text(town)
    return answer_state(town)

"""The calls on one board of channels: read from a list of numbers, carried out in order, answered in a list."""

from trustvote.believing import beliefs_from, outlying_voices, voices_of
from trustvote.board import FARTHEST, LAST_CHANNEL, NEVER, NONE, Board, Limits, Measured, Voted, is_value
from trustvote.judging import take_in

BEGIN = 0
SET_UP = 1
STAND = 2
VOTE = 3
CLEAR = 4
CAME = 5
NOW = 6
OUT = 7
# How many numbers each call has, its own number and a row's length among them, the row itself not.
LENGTHS = (1, 8, 3, 4, 2, 4, 3, 3, 2)

NOBODY = 64
FEWEST_MEMBERS = 2
MOST_MEMBERS = 16
LEAST_WEIGHT = 1
MOST_WEIGHT = 100

DONE = 0
DONE_ANEW = 1
NOT_ALLOWED = -1
NOT_THERE = -2
GOES_ROUND = -3
IN_THE_WAY = -4

IS_MEASURED = 0
IS_VOTED = 1


def answers(calls):
    """Carries out the calls on a new board: for each how many numbers it answers, then these."""
    board = Board()
    told = []
    place = 0
    while place < len(calls):
        end = end_of_call(calls, place)
        answer = answer_of_call(board, calls[place:end])
        told.append(len(answer))
        told.extend(answer)
        place = end
    return told


def end_of_call(calls, place):
    """The place behind the call that begins at this place."""
    end = place + LENGTHS[calls[place]]
    if calls[place] == VOTE:
        return end + calls[end - 1]
    return end


def answer_of_call(board, call):
    """Carries out one call, and gives back the numbers that it answers."""
    kind = call[0]
    if kind == BEGIN:
        return begin(board)
    if kind == SET_UP:
        return set_up(board, call[1], Limits(call[2], call[3], call[4], call[5], call[6], call[7]))
    if kind == STAND:
        return stand(board, call[1], call[2])
    if kind == VOTE:
        return vote(board, call[1], call[2], pairs(call[4:]))
    if kind == CLEAR:
        return clear(board, call[1])
    if kind == CAME:
        return came(board, call[1], call[2], call[3])
    if kind == NOW:
        return now(board, call[1], call[2])
    if kind == OUT:
        return out(board, call[1], call[2])
    return look(board, call[1])


def pairs(numbers):
    """The numbers two by two."""
    return [(numbers[k], numbers[k + 1]) for k in range(0, len(numbers), 2)]


def begin(board):
    """Promise 1: no channels."""
    board.take_all_away()
    return [DONE]


def set_up(board, c, limits):
    """Promise 2: c is measured, with these limits."""
    if c > LAST_CHANNEL or not limits.are_allowed():
        return [NOT_ALLOWED]
    channel = board.channel_at(c)
    if isinstance(channel, Voted):
        return [IN_THE_WAY]
    if channel is None:
        board.place(c, Measured(limits))
        return [DONE]
    channel.limits = limits
    return [DONE_ANEW]


def stand(board, c, s):
    """Promise 3: s stands in for c, or nobody."""
    if c > LAST_CHANNEL or s > NOBODY:
        return [NOT_ALLOWED]
    channel = board.channel_at(c)
    if not isinstance(channel, Measured):
        return [NOT_THERE]
    if s == NOBODY:
        channel.stand_in = None
        return [DONE]
    if not board.has_channel(s):
        return [NOT_THERE]
    if board.comes_to(s, c):
        return [GOES_ROUND]
    channel.stand_in = s
    return [DONE]


def vote(board, c, tolerance, members):
    """Promise 4: c is voted by these members."""
    if c > LAST_CHANNEL or tolerance > FARTHEST or not members_are_allowed(members):
        return [NOT_ALLOWED]
    if isinstance(board.channel_at(c), Measured):
        return [IN_THE_WAY]
    # Whether all are there is asked ahead of where they come to: the refusals have an order.
    for member in members:
        if not board.has_channel(member[0]):
            return [NOT_THERE]
    for member in members:
        if board.comes_to(member[0], c):
            return [GOES_ROUND]
    board.place(c, Voted(tolerance, members))
    return [DONE]


def members_are_allowed(members):
    """Whether a vote may have such members, wherever it stands."""
    if len(members) < FEWEST_MEMBERS or len(members) > MOST_MEMBERS:
        return False
    for member in members:
        if member[0] > LAST_CHANNEL:
            return False
        if member[1] < LEAST_WEIGHT or member[1] > MOST_WEIGHT:
            return False
    return len(set([member[0] for member in members])) == len(members)


def clear(board, c):
    """Promise 5: c isn't there any more."""
    if c > LAST_CHANNEL:
        return [NOT_ALLOWED]
    if not board.has_channel(c):
        return [NOT_THERE]
    if board.is_leaned_on(c):
        return [IN_THE_WAY]
    board.take_away(c)
    return [DONE]


def came(board, c, t, value):
    """Promise 6: the value, or none, has come of c."""
    if c > LAST_CHANNEL or t > FARTHEST:
        return [NOT_ALLOWED]
    if not is_value(value) and value != NONE:
        return [NOT_ALLOWED]
    channel = board.channel_at(c)
    if not isinstance(channel, Measured):
        return [NOT_THERE]
    if t < channel.last.time:
        return [IN_THE_WAY]
    take_in(channel, t, value)
    return [channel.last.quality]


def now(board, c, t):
    """Promise 7: what's believed of c."""
    if c > LAST_CHANNEL or t > FARTHEST:
        return [NOT_ALLOWED]
    if not board.has_channel(c):
        return [NOT_THERE]
    belief = beliefs_from(board, c, t)[c]
    return [belief.quality, belief.value, belief.sure]


def out(board, c, t):
    """Promise 8: which members of c are good, but too far from the middle."""
    if c > LAST_CHANNEL or t > FARTHEST:
        return [NOT_ALLOWED]
    channel = board.channel_at(c)
    if not isinstance(channel, Voted):
        return [NOT_THERE]
    voices = voices_of(channel, beliefs_from(board, c, t))
    outlying = [voice.c for voice in outlying_voices(channel, voices)]
    return [len(outlying)] + outlying


def look(board, c):
    """Promise 9: what c is, and what came of it."""
    if c > LAST_CHANNEL:
        return [NOT_ALLOWED]
    channel = board.channel_at(c)
    if channel is None:
        return [NOT_THERE]
    if isinstance(channel, Voted):
        return [IS_VOTED, NEVER, NONE, 0, NEVER, NONE, 0]
    last = channel.last
    good = channel.last_good
    return [IS_MEASURED, last.time, last.value, last.quality, good.time, good.value, channel.times]

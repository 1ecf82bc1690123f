"""The interface: a list of calls in, a list of answers out."""

from twopads.play import Game

BEGIN = 0
FRAME = 1
SEND = 2
HAND = 3
LOSE = 4
NET = 5
NOW = 6
SETTLED = 7
STATE = 8
PADS = 9
FAULT = 10
WATCH = 11
FILM = 12
DIFFER = 13
BOTH = 14

# How many numbers stand behind each call's own; begin's bytes come on top.
NUMBERS_OF_CALL = (3, 2, 1, 2, 1, 0, 1, 1, 2, 2, 3, 1, 0, 1, 0, 1)


# The place behind the call that stands at this place.
def call_end(calls, place):
    which = calls[place]
    end = place + 1 + NUMBERS_OF_CALL[which]
    if which == BEGIN:
        # The last of begin's three numbers says how many bytes follow.
        end += calls[end - 1]
    return end


def answer(game, which, numbers):
    if which <= SETTLED:
        return answer_of_play(game, which, numbers)
    return answer_of_look(game, which, numbers)


# The calls by which the two play.
def answer_of_play(game, which, numbers):
    if which == BEGIN:
        return game.begin(numbers[0], numbers[1], numbers[3:])
    if which == FRAME:
        return game.frame(numbers[0], numbers[1])
    if which == SEND:
        return game.send(numbers[0])
    if which == HAND:
        return game.hand(numbers[0], numbers[1])
    if which == LOSE:
        return game.lose(numbers[0])
    if which == NET:
        return game.net()
    if which == NOW:
        return game.now(numbers[0])
    return game.settled(numbers[0])


# The calls of who looks into the machines: faults, who watches, and what differs.
def answer_of_look(game, which, numbers):
    if which == STATE:
        return game.state(numbers[0], numbers[1])
    if which == PADS:
        return game.pads(numbers[0], numbers[1])
    if which == FAULT:
        return game.fault(numbers[0], numbers[1], numbers[2])
    if which == WATCH:
        return game.watch(numbers[0])
    if which == FILM:
        return game.film()
    if which == DIFFER:
        return game.differ(numbers[0])
    if which == BOTH:
        return game.both()
    return game.runs(numbers[0])


# For each call how many numbers it answers, and these, one behind another.
def answers(calls):
    game = Game()
    given = []
    place = 0
    while place < len(calls):
        end = call_end(calls, place)
        numbers = answer(game, calls[place], calls[place + 1:end])
        given.append(len(numbers))
        given.extend(numbers)
        place = end
    return given

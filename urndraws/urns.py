"""The calls about one urn, read out of one list of numbers and answered in order."""

from urndraws.draws import can_draw, drawn, last_colours, lower_outcomes

BEGINS = 0
RULE = 1
URN = 2
DRAW = 3
LASTS = 4
SURE = 5

# How many numbers follow a call's number; urn isn't here, as its row tells its own length.
NUMBERS_OF_CALL = {0: 1, 1: 3, 3: 2, 4: 0, 5: 0, 6: 0, 7: 0, 8: 2, 9: 0, 10: 1}

FEWEST_COLOURS = 2
MOST_COLOURS = 4
MOST_BALLS = 8


class Urn:
    """One urn and its rule. Each call answers a list; a refusal is a number below 0, alone."""

    def __init__(self):
        self.start_over(FEWEST_COLOURS)

    def start_over(self, colours):
        self.outcomes = lower_outcomes(colours)
        self.balls = [0] * colours

    def has_colour(self, colour):
        return colour < len(self.balls)

    def begins(self, colours):
        if colours < FEWEST_COLOURS or colours > MOST_COLOURS:
            return [-1]
        self.start_over(colours)
        return [0]

    def rule(self, a, b, c):
        if not (self.has_colour(a) and self.has_colour(b) and self.has_colour(c)):
            return [-1]
        before = self.outcomes[a][b]
        self.outcomes[a][b] = c
        self.outcomes[b][a] = c
        return [before]

    def urn(self, balls):
        if len(balls) != len(self.balls) or sum(balls) > MOST_BALLS:
            return [-1]
        self.balls = list(balls)
        return [sum(balls)]

    def draw(self, a, b):
        if not (self.has_colour(a) and self.has_colour(b)):
            return [-1]
        if not can_draw(self.balls, a, b):
            return [-2]
        self.balls = drawn(self.outcomes, self.balls, a, b)
        return [self.outcomes[a][b]] + self.balls

    def lasts(self):
        if sum(self.balls) == 0:
            return [-9]
        colours = last_colours(self.outcomes, self.balls)
        return [len(colours)] + colours

    def sure(self):
        if sum(self.balls) == 0:
            return [-9]
        colours = last_colours(self.outcomes, self.balls)
        if len(colours) == 1:
            return [1, colours[0]]
        return [0]


def numbers_begin(calls, place):
    """Where the numbers of the call at this place begin."""
    if calls[place] == URN:
        return place + 2
    return place + 1


def call_end(calls, place):
    """The place behind the call at this place."""
    begin = numbers_begin(calls, place)
    if calls[place] == URN:
        return begin + calls[place + 1]
    return begin + NUMBERS_OF_CALL[calls[place]]


def answer(urn, call, numbers):
    """What one call answers."""
    if call == BEGINS:
        return urn.begins(numbers[0])
    if call == RULE:
        return urn.rule(numbers[0], numbers[1], numbers[2])
    if call == URN:
        return urn.urn(numbers)
    if call == DRAW:
        return urn.draw(numbers[0], numbers[1])
    if call == LASTS:
        return urn.lasts()
    if call == SURE:
        return urn.sure()
    # Better no answer than a wrong one for a call that isn't built yet.
    raise KeyError(call)


def answers(calls):
    """For each call, in order: how many numbers it answers, then these."""
    urn = Urn()
    given = []
    place = 0
    while place < len(calls):
        end = call_end(calls, place)
        numbers = calls[numbers_begin(calls, place):end]
        answered = answer(urn, calls[place], numbers)
        given.append(len(answered))
        given.extend(answered)
        place = end
    return given

"""The calls about one urn, read out of one list of numbers and answered in order."""

from urndraws.averages import average_of
from urndraws.draws import after_draws, count_urns, drawn, last_colours, lower_outcomes, ways_to_draw
from urndraws.sureness import count_rules, count_sure_rules, first_that_matter

BEGINS = 0
RULE = 1
URN = 2
DRAW = 3
LASTS = 4
SURE = 5
COMES = 6
CHANCES = 7
AVERAGE = 8
MATTER = 9

# How many numbers follow a call's number; urn isn't here, as its row tells its own length.
NUMBERS_OF_CALL = {0: 1, 1: 3, 3: 2, 4: 0, 5: 0, 6: 0, 7: 0, 8: 2, 9: 0, 10: 1}

FEWEST_COLOURS = 2
MOST_COLOURS = 4
MOST_BALLS = 8
# Of 4 colours there are more than a million rules, too many to go through.
MOST_COLOURS_OF_RULES = 3


class Urn:
    """One urn and its rule. Each call answers a list; a refusal is a number below 0, alone."""

    def __init__(self):
        self.start_over(FEWEST_COLOURS)

    def start_over(self, colours):
        self.outcomes = lower_outcomes(colours)
        self.balls = [0] * colours

    def has_colour(self, colour):
        return colour < len(self.balls)

    def begins(self, colours):
        if colours < FEWEST_COLOURS or colours > MOST_COLOURS:
            return [-1]
        self.start_over(colours)
        return [0]

    def rule(self, a, b, c):
        if not (self.has_colour(a) and self.has_colour(b) and self.has_colour(c)):
            return [-1]
        before = self.outcomes[a][b]
        self.outcomes[a][b] = c
        self.outcomes[b][a] = c
        return [before]

    def urn(self, balls):
        if len(balls) != len(self.balls) or sum(balls) > MOST_BALLS:
            return [-1]
        self.balls = list(balls)
        return [sum(balls)]

    def draw(self, a, b):
        if not (self.has_colour(a) and self.has_colour(b)):
            return [-1]
        if ways_to_draw(self.balls, a, b) == 0:
            return [-2]
        self.balls = drawn(self.outcomes, self.balls, a, b)
        return [self.outcomes[a][b]] + self.balls

    def lasts(self):
        if sum(self.balls) == 0:
            return [-9]
        colours = last_colours(self.outcomes, self.balls)
        return [len(colours)] + colours

    def sure(self):
        if sum(self.balls) == 0:
            return [-9]
        colours = last_colours(self.outcomes, self.balls)
        if len(colours) == 1:
            return [1, colours[0]]
        return [0]

    def comes(self):
        return [count_urns(self.outcomes, self.balls)]

    def chances(self):
        if sum(self.balls) == 0:
            return [-9]
        urns = after_draws(self.outcomes, self.balls, sum(self.balls) - 1)
        told = [0]
        for colour in range(len(self.balls)):
            # Of one ball, how many have the colour on average is how likely it has it.
            told.extend(average_of(urns, colour))
        return told

    def average(self, left, colour):
        if not self.has_colour(colour):
            return [-1]
        if left == 0 or left > sum(self.balls):
            return [-2]
        urns = after_draws(self.outcomes, self.balls, sum(self.balls) - left)
        return [0] + average_of(urns, colour)

    def matter(self):
        three = first_that_matter(self.outcomes)
        if three == []:
            return [1]
        return [0] + three

    def rules(self, colours):
        if colours < FEWEST_COLOURS or colours > MOST_COLOURS_OF_RULES:
            return [-1]
        return [count_rules(colours), count_sure_rules(colours)]


def numbers_begin(calls, place):
    """Where the numbers of the call at this place begin."""
    if calls[place] == URN:
        return place + 2
    return place + 1


def call_end(calls, place):
    """The place behind the call at this place."""
    begin = numbers_begin(calls, place)
    if calls[place] == URN:
        return begin + calls[place + 1]
    return begin + NUMBERS_OF_CALL[calls[place]]


def answer(urn, call, numbers):
    """What one call answers."""
    if call == BEGINS:
        return urn.begins(numbers[0])
    if call == RULE:
        return urn.rule(numbers[0], numbers[1], numbers[2])
    if call == URN:
        return urn.urn(numbers)
    if call == DRAW:
        return urn.draw(numbers[0], numbers[1])
    if call == LASTS:
        return urn.lasts()
    if call == SURE:
        return urn.sure()
    if call == COMES:
        return urn.comes()
    if call == CHANCES:
        return urn.chances()
    if call == AVERAGE:
        return urn.average(numbers[0], numbers[1])
    if call == MATTER:
        return urn.matter()
    return urn.rules(numbers[0])


def answers(calls):
    """For each call, in order: how many numbers it answers, then these."""
    urn = Urn()
    given = []
    place = 0
    while place < len(calls):
        end = call_end(calls, place)
        numbers = calls[numbers_begin(calls, place):end]
        answered = answer(urn, calls[place], numbers)
        given.append(len(answered))
        given.extend(answered)
        place = end
    return given

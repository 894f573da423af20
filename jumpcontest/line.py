"""A line of calls about one contest: what is refused, and what is answered."""

from jumpcontest.athlete import CLEARED, FAILED, PASSED
from jumpcontest.competition import Competition, IN_JUMP_OFF, MAY_JUMP_OFF, ON
from jumpcontest.reading import BEGIN, CARD, HEIGHT, JUMP, LEAVE, OFF, ORDER, UP
from jumpcontest.refusals import NOT_ALLOWED, NOT_NOW, WRONG_NUMBER

MOST_ATHLETES = 20
MOST_RISE = 20
MOST_TURN = 10
MOST_HEIGHTS = 30
LEAST_HEIGHT = 50
MOST_TOLD_HEIGHT = 700
MOST_PUT_HEIGHT = 999
NO_PASS_FROM = 950

NOT_WANTED = 0
WANTED = 1


def are_heights(heights):
    """Whether a contest may begin with these heights."""
    if not 1 <= len(heights) <= MOST_HEIGHTS:
        return False
    for height in heights:
        if not LEAST_HEIGHT <= height <= MOST_TOLD_HEIGHT:
            return False
    for index in range(1, len(heights)):
        if heights[index] <= heights[index - 1]:
            return False
    return True


class Line:
    """What the calls of one line are about; each call answers its numbers as a list."""

    def __init__(self):
        # As the document has it ahead of the first begin: over, without athletes, the bar at 0.
        self.contest = Competition(0, 1, 1, [0])

    def answer(self, call, numbers, row):
        if call == BEGIN:
            return self.begin(numbers[0], numbers[1], numbers[2], row)
        if call == UP:
            return self.up()
        if call == JUMP:
            return self.jump(numbers[0])
        if call == LEAVE:
            return self.leave(numbers[0])
        if call == HEIGHT:
            return self.height(numbers[0])
        if call == OFF:
            return self.off(numbers[0])
        if call == CARD:
            return self.card(numbers[0])
        if call == ORDER:
            return self.order()
        # The reading lets no other call through than now here.
        return self.now()

    def begin(self, how_many, rise, turn, heights):
        if not 1 <= how_many <= MOST_ATHLETES or not 1 <= rise <= MOST_RISE or not 1 <= turn <= MOST_TURN:
            return [WRONG_NUMBER]
        if not are_heights(heights):
            return [WRONG_NUMBER]
        self.contest = Competition(how_many, rise, turn, heights)
        return [0]

    def up(self):
        number = self.contest.who_is_up()
        if number is None:
            return [NOT_NOW]
        return [number, self.contest.bar_now(), self.contest.which_jump()]

    def jump(self, how):
        if how not in (FAILED, CLEARED, PASSED):
            return [WRONG_NUMBER]
        number = self.contest.who_is_up()
        if number is None:
            return [NOT_NOW]
        if how == PASSED and not self.may_pass():
            return [NOT_ALLOWED]
        self.contest.take_jump(how)
        return self.with_state(number)

    def leave(self, number):
        if not self.contest.has_athlete(number):
            return [WRONG_NUMBER]
        if self.contest.phase() != ON:
            return [NOT_NOW]
        if self.contest.is_out(number):
            return [NOT_ALLOWED]
        self.contest.leave(number)
        return self.with_state(0)

    def height(self, bar):
        if not LEAST_HEIGHT <= bar <= MOST_PUT_HEIGHT:
            return [WRONG_NUMBER]
        # While somebody isn't out the phase is 0, so this tells of the phase too.
        not_out = self.contest.not_out()
        if len(not_out) != 1:
            return [NOT_NOW]
        if bar <= self.contest.greatest_tried():
            return [NOT_ALLOWED]
        self.contest.put_bar(bar)
        return self.with_state(not_out[0])

    def off(self, wanted):
        if wanted not in (NOT_WANTED, WANTED):
            return [WRONG_NUMBER]
        if self.contest.phase() != MAY_JUMP_OFF:
            return [NOT_NOW]
        # Counted ahead of the jump-off, which tells them apart.
        how_many = len(self.contest.first_ones())
        if wanted == NOT_WANTED:
            self.contest.decline_jump_off()
            return [how_many]
        self.contest.start_jump_off()
        return [how_many, self.contest.bar_now()]

    def card(self, number):
        if not self.contest.has_athlete(number):
            return [WRONG_NUMBER]
        athlete = self.contest.athletes[number]
        told = [athlete.greatest_cleared(), athlete.failures_in_a_row(), 1 if athlete.is_out() else 0]
        for jump in athlete.jumps:
            told.extend(jump)
        return told

    def order(self):
        ranked = self.contest.order()
        told = [len(ranked)]
        for number, place in ranked:
            told.extend([number, place, self.contest.athletes[number].greatest_cleared()])
        return told

    def now(self):
        return [self.contest.phase(), self.contest.bar_now()] + self.contest.who_is_in()

    def may_pass(self):
        return self.contest.phase() != IN_JUMP_OFF and self.contest.bar_now() < NO_PASS_FROM

    def with_state(self, first):
        return [first, self.contest.phase(), self.contest.bar_now()]

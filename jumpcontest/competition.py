"""A contest: its athletes, its bar and its phases."""

from jumpcontest.athlete import Athlete, CLEARED
from jumpcontest.jumpoff import JumpOff
from jumpcontest.ranking import placed, standing

ON = 0
MAY_JUMP_OFF = 1
IN_JUMP_OFF = 2
OVER = 3


class Competition:
    """One contest from its first height to its end; whoever calls it has looked at the refusals."""

    def __init__(self, how_many, rise, turn, heights):
        self.athletes = [Athlete() for number in range(how_many)]
        self.rise = rise
        self.turn = turn
        self.heights = list(heights)
        self.bar = heights[0]
        self.jump_off = None
        self.is_declined = False

    def phase(self):
        if len(self.not_out()) > 0:
            return ON
        if self.jump_off is not None:
            return OVER if self.jump_off.is_over() else IN_JUMP_OFF
        if self.is_declined or len(self.first_ones()) < 2:
            return OVER
        return MAY_JUMP_OFF

    def bar_now(self):
        """The jump-off's bar while there is one on; else where it was last in the contest."""
        if self.phase() == IN_JUMP_OFF:
            return self.jump_off.bar
        return self.bar

    def has_athlete(self, number):
        return 0 <= number < len(self.athletes)

    def is_out(self, number):
        return self.athletes[number].is_out()

    def not_out(self):
        """The numbers of those who aren't out, rising."""
        return [number for number in range(len(self.athletes)) if not self.is_out(number)]

    def who_is_in(self):
        """In a jump-off the numbers of those who are in it still, else of those who aren't out; rising."""
        if self.phase() == IN_JUMP_OFF:
            return list(self.jump_off.still_in)
        return self.not_out()

    def due(self):
        """The numbers of those who are due, rising."""
        return [number for number in range(len(self.athletes))
                if self.athletes[number].is_due_at(self.bar)]

    def who_is_up(self):
        """The number of who's up, None if nobody is."""
        if self.phase() == IN_JUMP_OFF:
            return self.jump_off.who_is_up()
        # Who is due has only failed at the bar; of equal ones min takes the first, the lesser number.
        return min(self.due(), key=lambda number: self.athletes[number].failures_at(self.bar), default=None)

    def which_jump(self):
        """Which jump at the bar is to come of who's up."""
        if self.phase() == IN_JUMP_OFF:
            return 1
        return self.athletes[self.who_is_up()].failures_at(self.bar) + 1

    def take_jump(self, how):
        if self.phase() == IN_JUMP_OFF:
            self.jump_off.take_jump(how == CLEARED)
        else:
            self.athletes[self.who_is_up()].add_jump(self.bar, how)
            self.raise_bar_if_done()

    def leave(self, number):
        self.athletes[number].has_left = True
        self.raise_bar_if_done()

    def put_bar(self, height):
        self.bar = height

    def greatest_tried(self):
        """The greatest height at which anybody has jumped or passed, 0 if there's none."""
        return max([athlete.greatest_tried() for athlete in self.athletes], default=0)

    def height_behind(self, height):
        return min([told for told in self.heights if told > height], default=height + self.rise)

    def raise_bar_if_done(self):
        if len(self.due()) == 0 and len(self.not_out()) > 0:
            self.bar = self.height_behind(self.bar)

    def order(self):
        """Of each who has cleared a height, in order: a tuple of the number and the place."""
        standings = {}
        for number, athlete in enumerate(self.athletes):
            if athlete.greatest_cleared() > 0:
                rounds = 0 if self.jump_off is None else self.jump_off.rounds_of(number)
                standings[number] = standing(athlete, rounds)
        return placed(standings)

    def first_ones(self):
        """The numbers of those who are first, rising; nobody, if no height has been cleared."""
        return [number for number, place in self.order() if place == 1]

    def start_jump_off(self):
        numbers = self.first_ones()
        cleared = self.athletes[numbers[0]].greatest_cleared()
        self.jump_off = JumpOff(numbers, self.height_behind(cleared), self.turn)

    def decline_jump_off(self):
        self.is_declined = True

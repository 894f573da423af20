"""A jump-off between those who are first and alike."""


class JumpOff:
    """Rounds of one jump each, until one alone clears."""

    def __init__(self, numbers, bar, turn):
        self.still_in = list(numbers)
        self.bar = bar
        self.turn = turn
        self.round_clears = []
        self.come_through = {}

    def is_over(self):
        return len(self.still_in) == 1

    def who_is_up(self):
        return self.still_in[len(self.round_clears)]

    def take_jump(self, is_cleared):
        self.round_clears.append(is_cleared)
        if len(self.round_clears) == len(self.still_in):
            self.end_round()

    def end_round(self):
        cleared = [number for number, clears in zip(self.still_in, self.round_clears) if clears]
        self.round_clears = []
        if len(cleared) == 0:
            self.bar = max(0, self.bar - self.turn)
        else:
            self.still_in = cleared
            self.bar = self.bar + self.turn
        for number in self.still_in:
            self.come_through[number] = self.rounds_of(number) + 1

    def rounds_of(self, number):
        """How many rounds they've come through; more for who went out later, most for who's in it still."""
        return self.come_through.get(number, 0)

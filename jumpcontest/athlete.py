"""One athlete's jumps in the contest itself."""

FAILED = 0
CLEARED = 1
PASSED = 2

FAILURES_TO_BE_OUT = 3


class Athlete:
    """What one athlete has done: the jumps, each a height and how it went, in their order."""

    def __init__(self):
        self.jumps = []
        self.has_left = False

    def add_jump(self, height, how):
        self.jumps.append((height, how))

    def failures_in_a_row(self):
        """How often they've failed since they last cleared a height; a pass changes nothing."""
        failures = 0
        for jump in reversed(self.jumps):
            if jump[1] == CLEARED:
                break
            if jump[1] == FAILED:
                failures = failures + 1
        return failures

    def is_out(self):
        return self.has_left or self.failures_in_a_row() >= FAILURES_TO_BE_OUT

    def is_due_at(self, bar):
        if self.is_out():
            return False
        return (bar, CLEARED) not in self.jumps and (bar, PASSED) not in self.jumps

    def failures_at(self, height):
        return self.jumps.count((height, FAILED))

    def failures_up_to(self, height):
        return len([jump for jump in self.jumps if jump[0] <= height and jump[1] == FAILED])

    def greatest_cleared(self):
        """The greatest height cleared, 0 if there's none."""
        return max([jump[0] for jump in self.jumps if jump[1] == CLEARED], default=0)

    def greatest_tried(self):
        """The greatest height jumped at or passed, 0 if there's none."""
        return max([jump[0] for jump in self.jumps], default=0)

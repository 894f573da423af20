"""Lines of calls for the tests, and what is answered to them, call by call."""

from jumpcontest.contest import answers

LEAST = -2147483648
MOST = 2147483647


def begin(athletes=2, rise=5, turn=2, heights=(100, 110, 120)):
    return [1, athletes, rise, turn, len(heights)] + list(heights)


def up():
    return [2]


def jump(how):
    return [3, how]


def fail():
    return jump(0)


def clear():
    return jump(1)


def skip():
    return jump(2)


def leave(athlete):
    return [4, athlete]


def height(bar):
    return [5, bar]


def split(told):
    """The answers as a list of lists, without the counts ahead of them."""
    found = []
    start = 0
    while start < len(told):
        end = start + 1 + told[start]
        found.append(told[start + 1:end])
        start = end
    return found


def run(*calls):
    """The answers to these calls, handed in as one line."""
    return split(answers([number for call in calls for number in call]))


def last(*calls):
    """The answer to the last of these calls."""
    return run(*calls)[-1]


def jumps(hows):
    """A call for each sign: o clears, x fails, - passes."""
    return [jump({'x': 0, 'o': 1, '-': 2}[sign]) for sign in hows.replace(' ', '')]

"""Lines of calls for the tests, and what is answered to them, call by call."""

from jumpcontest.contest import answers

LEAST = -2147483648
MOST = 2147483647


def begin(athletes=2, rise=5, turn=2, heights=(100, 110, 120)):
    return [1, athletes, rise, turn, len(heights)] + list(heights)


def up():
    return [2]


def jump(how):
    return [3, how]


def fail():
    return jump(0)


def clear():
    return jump(1)


def skip():
    return jump(2)


def leave(athlete):
    return [4, athlete]


def height(bar):
    return [5, bar]


def off(wanted=1):
    return [6, wanted]


def card(athlete):
    return [7, athlete]


def order():
    return [8]


def now():
    return [9]


def split(told):
    """The answers as a list of lists, without the counts ahead of them."""
    found = []
    start = 0
    while start < len(told):
        end = start + 1 + told[start]
        found.append(told[start + 1:end])
        start = end
    return found


def run(*calls):
    """The answers to these calls, handed in as one line."""
    return split(answers([number for call in calls for number in call]))


def last(*calls):
    """The answer to the last of these calls."""
    return run(*calls)[-1]


def behind(calls, *more):
    """The answers to the calls in more alone, that stand behind the others in one line."""
    return run(*calls, *more)[len(calls):]


def jumps(hows):
    """A call for each sign: o clears, x fails, - passes."""
    return [jump({'x': 0, 'o': 1, '-': 2}[sign]) for sign in hows.replace(' ', '')]


def two(turn=2):
    """Calls: athletes 0 and 2 of three are first and alike at 110, 1 is third; all are out, the bar at 120."""
    return [begin(3, 5, turn, [100, 110, 120]), *jumps('ooo oxoxx xxxxxx')]


def alike(athletes, turn=3, rise=5, heights=(100,)):
    """Calls: all clear the first height at once and fail three times at the next one."""
    return [begin(athletes, rise, turn, heights), *jumps('o' * athletes + 'x' * 3 * athletes)]

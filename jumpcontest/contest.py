"""The program's one way in."""

from jumpcontest.line import Line
from jumpcontest.reading import read_calls


def answers(calls):
    """Of each call in the list, in order: how many numbers are answered, then these."""
    line = Line()
    told = []
    for read in read_calls(calls):
        answer = line.answer(read[0], read[1], read[2])
        told.append(len(answer))
        told.extend(answer)
    return told

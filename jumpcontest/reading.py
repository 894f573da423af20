"""How the calls are told in one list of whole numbers."""

BEGIN = 1
UP = 2
JUMP = 3
LEAVE = 4
HEIGHT = 5
OFF = 6
CARD = 7
ORDER = 8

# By the number of a call: how many numbers it has ahead of its row, if it has one.
PLAIN_NUMBERS = {1: 3, 2: 0, 3: 1, 4: 1, 5: 1, 6: 1, 7: 1, 8: 0, 9: 0}


def read_calls(calls):
    """Each call as a tuple: its number, the list of its plain numbers, its row (or an empty list)."""
    read = []
    start = 0
    while start < len(calls):
        call = calls[start]
        end = start + 1 + PLAIN_NUMBERS[call]
        numbers = calls[start + 1:end]
        row = []
        if call == BEGIN:
            row_start = end + 1
            end = row_start + calls[end]
            row = calls[row_start:end]
        read.append((call, numbers, row))
        start = end
    return read

"""Parts one list of numbers into the calls that stand in it, one behind another."""

# Of each call, by its number: how many whole numbers it has, then how many rows.
SHAPES = ((0, 1), (2, 2), (2, 1), (0, 0), (0, 1), (1, 1), (0, 0), (0, 0), (0, 0))


class Call:
    def __init__(self, number, numbers, rows, behind):
        self.number = number
        self.numbers = numbers
        self.rows = rows
        self.behind = behind


def read_call(calls, start):
    shape = SHAPES[calls[start]]
    at = start + 1 + shape[0]
    numbers = calls[start + 1:at]
    rows = []
    for turn in range(shape[1]):
        first = at + 1
        at = first + calls[at]
        rows.append(calls[first:at])
    return Call(calls[start], numbers, rows, at)


def read_calls(calls):
    told = []
    at = 0
    while at < len(calls):
        call = read_call(calls, at)
        told.append(call)
        at = call.behind
    return told

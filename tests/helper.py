"""Builds lists of calls, and parts what is answered into one list for each call."""

from platforms.station import answers

LEFT = 0
RIGHT = 1
LARGEST = 4294967295

BOTH = (10, 1, 1)
LEFT_ONLY = (10, 1, 0)
RIGHT_ONLY = (10, 0, 1)
NEITHER = (10, 0, 0)


def begins(*tracks):
    numbers = [number for track in tracks for number in track]
    return [0, len(numbers)] + numbers


def come(minute, side, lengths, costs):
    return [1, minute, side, len(lengths)] + lengths + [len(costs)] + costs


def go(minute, side, parts):
    return [2, minute, side, len(parts)] + parts


def undo():
    return [3]


def try_tracks(*tracks):
    return [4, len(tracks)] + list(tracks)


def stands(minute, *tracks):
    return [5, minute, len(tracks)] + list(tracks)


def best():
    return [6]


def fewest():
    return [7]


def forced():
    return [8]


def joined(calls):
    return [number for call in calls for number in call]


def parted(told):
    found = []
    at = 0
    while at < len(told):
        found.append(told[at + 1:at + 1 + told[at]])
        at += 1 + told[at]
    if at != len(told):
        raise AssertionError("a count leads beyond the end of %r" % (told,))
    return found


def ask(*calls):
    return parted(answers(joined(calls)))


def last(*calls):
    return ask(*calls)[-1]


def with_rows(number, *rows):
    return [number] + joined([[len(row)] + row for row in rows])


def comes_first(train, reason, told):
    return [-6, 2, 0, train, 2, reason, told]


def goes_first(train, reason, told):
    return [-6, 2, 1, train, 2, reason, told]

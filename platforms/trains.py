"""The trains that come and go, and their moves in order."""

COMES = 0
GOES = 1


class Coming:
    def __init__(self, minute, side, parts, costs):
        self.minute = minute
        self.side = side
        self.parts = parts
        # As they are handed in: 0 where it can't stand, else one more than the cost.
        self.costs = costs

    def can_stand_on(self, track):
        return self.costs[track] > 0

    def cost_on(self, track):
        return self.costs[track] - 1


class Going:
    def __init__(self, minute, side, parts):
        self.minute = minute
        self.side = side
        self.parts = parts


class Move:
    def __init__(self, kind, number, train):
        self.kind = kind
        self.number = number
        self.train = train


def moves_in_order(coming, going):
    leaving = [Move(GOES, number, train) for number, train in enumerate(going)]
    arriving = [Move(COMES, number, train) for number, train in enumerate(coming)]
    # sorted leaves moves of one minute as they are here: those that go first, each by their numbers.
    return sorted(leaving + arriving, key=lambda move: move.train.minute)

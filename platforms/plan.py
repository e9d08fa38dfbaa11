"""A station's tracks and trains, and the calls that tell of them and ask about them."""

from platforms.standing import Standing
from platforms.trains import Coming, Going, moves_in_order
from platforms.ways import Search

MOST_TRACKS = 4
MOST_PARTS = 4
MOST_COMING = 6
MOST_GOING = 12
LONGEST = 100
LATEST = 10000
DEAREST = 1000

WRONG = -1
NOT_THERE = -2
GOES_ALREADY = -3
TOO_MANY = -5
NO_WAY = -6


def are_lengths(numbers):
    return all([1 <= number <= LONGEST for number in numbers])


def are_costs(numbers):
    # A cost is handed in with 1 added.
    return all([number <= DEAREST + 1 for number in numbers])


def with_lists(number, rows):
    told = [number]
    for row in rows:
        told.append(len(row))
        told.extend(row)
    return told


def is_on_track(ways, train, track):
    return all([way[train] == track for way in ways])


class Plan:
    def __init__(self):
        self.tracks = []
        self.lengths = []
        self.coming = []
        self.going = []

    def begins(self, numbers):
        tracks = [numbers[at:at + 3] for at in range(0, len(numbers), 3)]
        if len(tracks) > MOST_TRACKS or not are_lengths([track[0] for track in tracks]):
            return [WRONG]
        self.tracks = tracks
        self.lengths = []
        self.coming = []
        self.going = []
        return [len(tracks)]

    def come(self, minute, side, lengths, costs):
        if minute > LATEST or not 1 <= len(lengths) <= MOST_PARTS or not are_lengths(lengths):
            return [WRONG]
        if len(costs) != len(self.tracks) or not are_costs(costs):
            return [WRONG]
        if len(self.coming) == MOST_COMING:
            return [TOO_MANY]
        first = len(self.lengths)
        parts = list(range(first, first + len(lengths)))
        self.lengths.extend(lengths)
        self.coming.append(Coming(minute, side, parts, costs))
        return with_lists(len(self.coming) - 1, [parts])

    def go(self, minute, side, parts):
        if minute > LATEST or len(parts) == 0 or len(set(parts)) != len(parts):
            return [WRONG]
        if max(parts) >= len(self.lengths):
            return [NOT_THERE]
        if len(self.going) == MOST_GOING:
            return [TOO_MANY]
        if any([self.goes_already(part) for part in parts]):
            return [GOES_ALREADY]
        self.going.append(Going(minute, side, parts))
        return [len(self.going) - 1]

    def undo(self):
        if len(self.going) == 0:
            return [NOT_THERE]
        self.going.pop()
        return [len(self.going)]

    def try_tracks(self, chosen):
        if not self.are_tracks_for_all(chosen):
            return [WRONG]
        standing = Standing(self.tracks, self.lengths)
        obstacle = standing.first_obstacle(moves_in_order(self.coming, self.going), chosen)
        if len(obstacle) > 0:
            return with_lists(NO_WAY, obstacle)
        return [self.cost_of(chosen)]

    def stands(self, minute, chosen):
        if minute > LATEST or not self.are_tracks_for_all(chosen):
            return [WRONG]
        moves = [move for move in moves_in_order(self.coming, self.going) if move.train.minute <= minute]
        standing = Standing(self.tracks, self.lengths)
        obstacle = standing.first_obstacle(moves, chosen)
        if len(obstacle) > 0:
            return with_lists(NO_WAY, obstacle)
        return with_lists(sum([len(row) for row in standing.rows]), standing.rows)

    def best(self):
        ways = self.all_ways()
        if len(ways) == 0:
            return [NO_WAY]
        cheapest = self.cheapest_of(ways)
        return with_lists(self.cost_of(cheapest[0]), [[len(ways), len(cheapest)], cheapest[0]])

    def fewest(self):
        ways = self.all_ways()
        if len(ways) == 0:
            return [NO_WAY]
        least = min([len(set(way)) for way in ways])
        chosen = self.cheapest_of([way for way in ways if len(set(way)) == least])[0]
        return with_lists(least, [[self.cost_of(chosen)], chosen])

    def forced(self):
        ways = self.all_ways()
        if len(ways) == 0:
            return [NO_WAY]
        rows = [[train, track] for train, track in enumerate(ways[0]) if is_on_track(ways, train, track)]
        return with_lists(len(rows), rows)

    def goes_already(self, part):
        return any([part in train.parts for train in self.going])

    def are_tracks_for_all(self, chosen):
        return len(chosen) == len(self.coming) and all([track < len(self.tracks) for track in chosen])

    def cost_of(self, chosen):
        return sum([train.cost_on(track) for train, track in zip(self.coming, chosen)])

    def all_ways(self):
        return Search(self.tracks, self.lengths, self.coming, self.going).ways()

    def cheapest_of(self, ways):
        costs = [self.cost_of(way) for way in ways]
        least = min(costs)
        return [way for way, cost in zip(ways, costs) if cost == least]

"""The parts that stand on the tracks while moves are done."""

from platforms.trains import COMES

LEFT = 0

STANDS_NOWHERE = 1
NOT_IN_A_ROW = 2
OTHERS_AHEAD = 3
CLOSED = 4
NOT_ALLOWED = 5
NO_ROOM = 6


class Standing:
    def __init__(self, tracks, lengths):
        self.tracks = tracks
        self.lengths = lengths
        self.rows = [[] for track in tracks]

    # An empty list is answered below when what's asked for is done, else the reason and what's told of it;
    # first_obstacle tells the move ahead of these.

    def first_obstacle(self, moves, chosen):
        for move in moves:
            hindered = self.do_move(move, chosen)
            if len(hindered) > 0:
                return [[move.kind, move.number], hindered]
        return []

    def do_move(self, move, chosen):
        if move.kind == COMES:
            return self.bring(move.train, chosen[move.number])
        return self.take(move.train)

    def bring(self, train, track):
        if not train.can_stand_on(track):
            return [NOT_ALLOWED, track]
        if not self.leads_to(track, train.side):
            return [CLOSED, track]
        if self.length_of(self.rows[track] + train.parts) > self.tracks[track][0]:
            return [NO_ROOM, track]
        if train.side == LEFT:
            self.rows[track] = train.parts + self.rows[track]
        else:
            self.rows[track] = self.rows[track] + train.parts
        return []

    def take(self, train):
        missing = [part for part in train.parts if self.track_of(part) is None]
        if len(missing) > 0:
            return [STANDS_NOWHERE, missing[0]]
        track = self.track_of(train.parts[0])
        row = self.rows[track]
        start = row.index(train.parts[0])
        behind = start + len(train.parts)
        if row[start:behind] != train.parts:
            return [NOT_IN_A_ROW, train.parts[0]]
        if train.side == LEFT and start > 0:
            return [OTHERS_AHEAD, row[start - 1]]
        if train.side != LEFT and behind < len(row):
            return [OTHERS_AHEAD, row[behind]]
        if not self.leads_to(track, train.side):
            return [CLOSED, track]
        self.rows[track] = row[:start] + row[behind:]
        return []

    def leads_to(self, track, side):
        return self.tracks[track][1 + side] == 1

    def length_of(self, parts):
        return sum([self.lengths[part] for part in parts])

    def track_of(self, part):
        for track, row in enumerate(self.rows):
            if part in row:
                return track
        return None

"""Finds all ways: tracks, one for each train that comes, on which all moves can be done."""

from platforms.standing import Standing
from platforms.trains import moves_in_order


def all_choices(trains, tracks):
    # Lower tracks are taken up first, so that of several ways the first one stands first.
    choices = [[]]
    for train in range(trains):
        longer = []
        for chosen in choices:
            longer.extend([chosen + [track] for track in range(tracks)])
        choices = longer
    return choices


def share_a_part(some, others):
    return any([part in others for part in some])


class Search:
    # A train meets those on its own track alone. So each group of trains is tried on a track once, whatever
    # the others do meanwhile: there are some hundred groups at the most, but thousands of choices.

    def __init__(self, tracks, lengths, coming, going):
        self.tracks = tracks
        self.lengths = lengths
        self.coming = coming
        self.moves = moves_in_order(coming, going)
        self.known = {}

    def ways(self):
        choices = all_choices(len(self.coming), len(self.tracks))
        return [chosen for chosen in choices if self.is_way(chosen)]

    def is_way(self, chosen):
        for track in range(len(self.tracks)):
            if not self.can_be_done_on(track, chosen):
                return False
        return True

    def can_be_done_on(self, track, chosen):
        group = [number for number, taken in enumerate(chosen) if taken == track]
        key = (track, tuple(group))
        if key not in self.known:
            self.known[key] = self.can_group_be_done(group, chosen)
        return self.known[key]

    def can_group_be_done(self, group, chosen):
        parts = []
        for number in group:
            parts.extend(self.coming[number].parts)
        # A train that goes counts here too if only some of its parts are among these: the others are missed then.
        moves = [move for move in self.moves if share_a_part(move.train.parts, parts)]
        standing = Standing(self.tracks, self.lengths)
        return len(standing.first_obstacle(moves, chosen)) == 0

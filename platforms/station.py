"""Answers the calls on one station, which is new each time."""

from platforms.plan import Plan
from platforms.reading import read_calls

BEGINS = 0
COME = 1
GO = 2
UNDO = 3
TRY_TRACKS = 4
STANDS = 5
BEST = 6
FEWEST = 7


def answer_to(plan, call):
    numbers = call.numbers
    rows = call.rows
    if call.number == BEGINS:
        return plan.begins(rows[0])
    if call.number == COME:
        return plan.come(numbers[0], numbers[1], rows[0], rows[1])
    if call.number == GO:
        return plan.go(numbers[0], numbers[1], rows[0])
    if call.number == UNDO:
        return plan.undo()
    if call.number == TRY_TRACKS:
        return plan.try_tracks(rows[0])
    if call.number == STANDS:
        return plan.stands(numbers[0], rows[0])
    if call.number == BEST:
        return plan.best()
    if call.number == FEWEST:
        return plan.fewest()
    # No call has a higher number than this one, forced.
    return plan.forced()


def answers(calls):
    plan = Plan()
    told = []
    for call in read_calls(calls):
        answered = answer_to(plan, call)
        told.append(len(answered))
        told.extend(answered)
    return told

"""The calls on one desk, told and answered in whole numbers."""

from samemomentdesk.desk import Desk

NEW = 0
LEAF = 1
MOVE = 2
SHAPE = 3
TOLD = 4
WIRE = 5
JOINT = 6
LAY = 7
LAID = 8
JUDGE = 9
LEAST = 10
RANK = 11

# How many whole numbers a call has, by its number, beside a row: a row tells its own count.
COUNTS = (0, 3, 4, 0, 0, 0, 1, 2, 3, 0, 0, 1, 0)


def has_row(call):
    return call == SHAPE or call == JUDGE


def head_length(call):
    """How many numbers stand ahead of what the call is given: its own, and the count of its row."""
    if has_row(call):
        return 2
    return 1


def body_length(calls, at):
    """How many numbers the call that begins at this place is given."""
    if has_row(calls[at]):
        return calls[at + 1]
    return COUNTS[calls[at]]


def answer(desk, call, given):
    if call == NEW:
        return desk.start_anew()
    if call == LEAF:
        return desk.add_leaf(given[0], given[1], given[2])
    if call == MOVE:
        return desk.move_leaf(given[0], given[1], given[2], given[3])
    if call == SHAPE:
        return desk.take_shape(given)
    if call == TOLD:
        return desk.tell_shape()
    if call == WIRE:
        return desk.tell_wire()
    if call == JOINT:
        return desk.tell_joint(given[0])
    if call == LAY:
        return desk.lay_out(given[0], given[1])
    if call == LAID:
        return desk.tell_laid(given[0], given[1], given[2])
    if call == JUDGE:
        return desk.judge(given)
    if call == LEAST:
        return desk.take_least()
    if call == RANK:
        return desk.take_ranked(given[0])
    return desk.count_shapes()


def answers(calls):
    """What a new desk answers to the calls, one behind another: of each how many numbers, then these."""
    desk = Desk()
    told = []
    at = 0
    while at < len(calls):
        first = at + head_length(calls[at])
        behind = first + body_length(calls, at)
        numbers = answer(desk, calls[at], calls[first:behind])
        told.append(len(numbers))
        told.extend(numbers)
        at = behind
    return told

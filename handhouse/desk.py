"""The desk at which calls on a new house are handed in."""

from handhouse.house import House

OPEN_CALL = 0
CLOSE_CALL = 1
INPUT_CALL = 2
OUTPUT_CALL = 3


def answer_of(house, call):
    """What the house answers to one call, its number alone if it's a refusal."""
    if call[0] == OPEN_CALL:
        return house.open_line(call[1])
    if call[0] == CLOSE_CALL:
        return house.close_line(call[1])
    if call[0] == INPUT_CALL:
        return house.take_in(call[1], call[3:])
    if call[0] == OUTPUT_CALL:
        return house.give_out(call[1], call[2])
    return house.tell()


def size_of_call(calls, at):
    if calls[at] == OPEN_CALL or calls[at] == CLOSE_CALL:
        return 2
    if calls[at] == INPUT_CALL:
        return 3 + calls[at + 2]
    if calls[at] == OUTPUT_CALL:
        return 3
    return 1


def answers(calls):
    """For each call, in order: how many numbers are answered, then these."""
    house = House()
    row = []
    at = 0
    while at < len(calls):
        size = size_of_call(calls, at)
        answer = answer_of(house, calls[at:at + size])
        row.append(len(answer))
        row.extend(answer)
        at = at + size
    return row

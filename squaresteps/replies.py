"""The numbers that calls answer, and the form in which bytes are told."""

DONE = 0
WRONG = -1
TWICE = -2
NO_FILLING = -3
NO_SQUARE = -4
NO_ROOM = -6

MOST_ROOM = 1048576


def is_room(room):
    return 0 <= room <= MOST_ROOM


def told_bytes(numbers, room):
    if len(numbers) > room:
        return [NO_ROOM]
    return [len(numbers)] + numbers

"""Chooses some of several things, in order."""


def choices_of(things, size):
    """All lists of so many of the things: first those with the first of them, and so on."""
    if size == 0:
        return [[]]
    found = []
    for place, thing in enumerate(things):
        for rest in choices_of(things[place + 1:], size - 1):
            found.append([thing] + rest)
    return found

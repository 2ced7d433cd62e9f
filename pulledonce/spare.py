"""Which stages of a program can be left out together, and which may change places."""

from itertools import combinations

from pulledonce.alike import alike
from pulledonce.errors import BadStage
from pulledonce.items import refuse_zips, same_items


def is_as_good(program, other, items):
    """Whether another program is alike, or, with items, gives the same items; None is no program."""
    if other is None:
        return False
    return same_items(program, other) if items else alike(program, other)


def program_without(program, positions):
    """The program without the stages at some positions, or None if that is none."""
    try:
        return program.without(positions)
    except BadStage:
        return None


def program_exchanged(program, position):
    """The program with two stages exchanged, or None if that is none."""
    try:
        return program.exchanged(position)
    except BadStage:
        return None


def has_all(positions, others):
    return all([position in positions for position in others])


def spare(program, *, items=False):
    """The ascending list of the greatest lists of positions of stages that can be left out together."""
    if items:
        refuse_zips(program)
    found = []
    everything = list(range(len(program.stages)))
    for many_left in range(len(everything) + 1):
        for left in combinations(everything, many_left):
            positions = [position for position in everything if position not in left]
            if any([has_all(greater, positions) for greater in found]):
                continue
            if is_as_good(program, program_without(program, positions), items):
                found.append(positions)
    return sorted(found)


def places(program, *, items=False):
    """The ascending list of the positions whose stage may change places with the next one."""
    if items:
        refuse_zips(program)
    return [
        position for position in range(len(program.stages) - 1)
        if is_as_good(program, program_exchanged(program, position), items)
    ]

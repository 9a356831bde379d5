"""Numbers of fields that show what queries ask for, and events that have them.

A group is a set and the spots (kind, field) that have one of its numbers
together. A choice is a dict from spots to numbers.
"""

from streamsure.keysets import pair_sides
from streamsure.queries import Lonely, Pairs
from streamsure.sets import meet, member_but, others, some_member


def groups_of_side(side):
    """Return the groups of a side: each field is free of the others."""
    return [(one, [(side.kind, field)]) for field, one in zip(side.fields, side.sets)]


def groups_of_two(query):
    """Return the groups of what can be paired or can follow, None if nothing can."""
    if not isinstance(query, (Pairs, Lonely)):
        return None
    first, second = pair_sides(query)
    if first.is_empty() or second.is_empty():
        return None
    found = [(first.set_of(one), [(first.kind, one), (second.kind, other)]) for one, other in query.by]
    keys = [spot for _, spots in found for spot in spots]
    rest = groups_of_side(first) + groups_of_side(second)
    return found + [(one, spots) for one, spots in rest if spots[0] not in keys]


def choices(groups, another):
    """Return a choice from groups, then choices that are unlike it in one group.

    Some of these have numbers that are not in another row of groups.
    """
    base = {spot: some_member(one) for one, spots in groups for spot in spots}
    barred = {spot: others(one) for one, spots in another for spot in spots}
    found = [base]
    for one, spots in groups:
        numbers = [member_but(one, (base[spots[0]],))]
        numbers.extend([member_but(meet(one, barred[spot]), ()) for spot in spots if spot in barred])
        for number in numbers:
            if number is not None:
                found.append({spot: number if spot in spots else base[spot] for spot in base})
    return found


def chosen_event(side, choice, time, number):
    """Return an event of a side's kind that has the numbers of a choice."""
    return (side.kind, time, number, *[choice[side.kind, field] for field in side.fields])

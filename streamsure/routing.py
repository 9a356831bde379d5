"""Trees of tests: they bring each event to just the queries that let it through.

A tree is built field by field. What counts behind a field is only which
queries can still let the event through: ways with the same ones go on alike.
"""

from streamsure.boxes import SideSets, cut_box, cut_open, some_numbers, whole_box, whole_open, wrong_numbers
from streamsure.errors import BadLetter
from streamsure.events import FIRST_FIELD, sides_of
from streamsure.letters import is_plain_letter, letters_for
from streamsure.machines import start, step
from streamsure.sets import has

LOT = "lot"
BELOW = "below"


def tree_for(kinds, queries):
    """Return a tree that brings each event to just the queries that let it through."""
    return {kind: _node_for(len(kinds.fields[kind]), _sides_by_query(queries, kind)) for kind in kinds.fields}


def _sides_by_query(queries, kind):
    """Return a dict from the numbers of queries to their sides of a kind that let some events through."""
    found = {}
    for number, query in enumerate(queries):
        # sides of one query are of unlike kinds
        for side in sides_of(query):
            if side.kind == kind and not side.is_empty():
                found[number] = side
    return found


def _cuts(sides, field):
    """Return the ascending numbers at which sets of a field begin or have just ended."""
    found = {}
    for side in sides:
        for low, high in side.sets[field]:
            if low is not None:
                found[low] = True
            if high is not None:
                found[high + 1] = True
    return sorted(found)


def tests_bound(kinds, queries, kind):
    """Return how many tests are always enough for events of a kind."""
    sides = list(_sides_by_query(queries, kind).values())
    return sum([len(_cuts(sides, field)).bit_length() for field in range(len(kinds.fields[kind]))])


def _node_for(many, sides):
    """Return the node of a kind with so many fields."""
    levels = []
    lots = [tuple(sides)]
    for field in range(many):
        parts = {lot: _parts(sides, lot, field) for lot in lots}
        levels.append(parts)
        lots = list({after: True for _, found in parts.values() for after in found})
    nodes = {lot: (LOT, lot) for lot in lots}
    for field in range(many - 1, -1, -1):
        nodes = _nodes_ahead(FIRST_FIELD + field, levels[field], nodes)
    return nodes[tuple(sides)]


def _nodes_ahead(place, parts, nodes):
    """Return the node of each lot ahead of a field, from those of the lots behind it."""
    found = {}
    for lot, (bounds, after) in parts.items():
        found[lot] = _split_node(place, bounds, [nodes[inner] for inner in after])
    return found


def _parts(sides, lot, field):
    """Return the bounds at which the queries that can still let an event through change, and these."""
    cuts = _cuts([sides[query] for query in lot], field)
    bounds = []
    # below the first cut all numbers are alike
    found = [_lot_at(sides, lot, field, cuts[0] - 1 if cuts else 0)]
    for cut in cuts:
        inner = _lot_at(sides, lot, field, cut)
        if inner != found[-1]:
            bounds.append(cut)
            found.append(inner)
    return bounds, found


def _lot_at(sides, lot, field, number):
    """Return those of a lot whose set of a field has a number."""
    return tuple([query for query in lot if has(sides[query].sets[field], number)])


def _split_node(place, bounds, nodes):
    """Return a node that leads to one node more than there are bounds, by halves."""
    if not bounds:
        return nodes[0]
    half = len(bounds) // 2
    low = _split_node(place, bounds[:half], nodes[:half + 1])
    high = _split_node(place, bounds[half + 1:], nodes[half + 1:])
    return (BELOW, place, bounds[half], low, high)


def walked(tree, event):
    """Return the lot at which an event comes out, and how many tests were made."""
    node = tree[event[0]]
    many = 0
    while node[0] == BELOW:
        _, place, bound, low, high = node
        node = low if event[place] < bound else high
        many += 1
    return node[1], many


def lot_of(tree, event):
    """Return the lot at which an event comes out."""
    return walked(tree, event)[0]


def most_tests(node):
    """Return the greatest number of tests on a way."""
    most = 0
    # nodes are gone through one by one, since they may be deeper than calls
    left = [(node, 0)]
    while left:
        part, many = left.pop()
        if part[0] == BELOW:
            left.append((part[3], many + 1))
            left.append((part[4], many + 1))
        most = max(most, many)
    return most


def wrong_tree(kinds, queries, tree):
    """Return an event that a tree does not bring to just the queries that let it through, None without any."""
    for kind in kinds.fields:
        sides = {number: SideSets(side) for number, side in _sides_by_query(queries, kind).items()}
        numbers = _wrong_way(tree[kind], whole_box(len(kinds.fields[kind])), sides)
        if numbers is not None:
            return (kind, 0, 0, *numbers)
    return None


def _wrong_way(root, whole, sides):
    """Return numbers of fields that are brought to a wrong lot, None without any."""
    left = [(root, whole, whole_open(sides))]
    while left:
        node, box, still_open = left.pop()
        if node[0] == LOT:
            found = wrong_numbers(sides, still_open, box, node[1])
            if found is not None:
                return found
        elif node[1] - FIRST_FIELD >= len(box):
            # no event of this kind comes out behind a test of a field that it lacks
            return some_numbers(box)
        else:
            for part, inner in _ways(node, box):
                left.append((part, inner, cut_open(sides, still_open, inner, node[1] - FIRST_FIELD)))
    return None


def _ways(node, box):
    """Return the ways behind a test that some events in a box take, with the boxes of these."""
    _, place, bound, low, high = node
    found = []
    for part, interval in ((low, (None, bound - 1)), (high, (bound, None))):
        inner = cut_box(box, place - FIRST_FIELD, interval)
        if inner is not None:
            found.append((part, inner))
    return found


def run_many(queries, tree, letters):
    """Return the states of all queries behind some letters, and for each letter what each query tells."""
    states = [start(query) for query in queries]
    told = []
    for letter in _letters_for_all(queries, tree, letters):
        lot = lot_of(tree, letter[1]) if letter[0] == "event" else list(range(len(queries)))
        row = [() for _ in queries]
        for number in lot:
            states[number], row[number] = step(queries[number], states[number], letter)
        told.append(tuple(row))
    return tuple(states), tuple(told)


def _letters_for_all(queries, tree, letters):
    if queries:
        return letters_for(queries[0], letters)
    rows = tuple(letters)
    for number, thing in enumerate(rows):
        # without queries no more is known of the kinds than their names
        if not is_plain_letter(thing) or (thing[0] == "event" and thing[1][0] not in tree):
            raise BadLetter(number)
    return rows

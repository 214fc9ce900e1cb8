"""The tree of pieces and holes, its forms and matches (points 2.2, 2.3 and 2.6)."""

from boneways.pictures import is_cell, picture_of, united
from boneways.pieces import OUTSIDE, cells_told, holes, pieces, place_of
from boneways.values import is_ascending


def parent_of(picture, place):
    """The place of the parent of a piece or hole."""
    x, y = place[1]
    return place_of(picture, (x - 1, y))


def place_table(picture):
    """The dict of the place of each cell of a piece or hole."""
    table = {}
    for word, lots in (("piece", pieces(picture)), ("hole", holes(picture))):
        for lot in lots:
            for cell in lot:
                table[cell] = (word, lot[0])
    return table


def parent_table(picture):
    """The dict of the parent of each piece or hole, ascending."""
    table = place_table(picture)
    parents = {}
    for place in sorted(set(list(table.values()))):
        x, y = place[1]
        parents[place] = table.get((x - 1, y), OUTSIDE)
    return parents


def nodes(picture):
    """The ascending tuple of the pairs of each piece or hole and its parent."""
    parents = parent_table(picture)
    return tuple((place, parents[place]) for place in parents)


def children_of(picture, place):
    """The ascending tuple of the places whose parent a place is."""
    return tuple(child for child, parent in nodes(picture) if parent == place)


def around(picture, cell):
    """The places from that of a cell to the outside, each one's parent behind it."""
    parents = parent_table(picture)
    places = [place_of(picture, cell)]
    while places[-1] != OUTSIDE:
        places.append(parents[places[-1]])
    return tuple(places)


def child_table(picture):
    """The dict of the ascending list of the children of each place."""
    parents = parent_table(picture)
    children = {OUTSIDE: []}
    for place in parents:
        children[place] = []
    for place, parent in parents.items():
        children[parent].append(place)
    return children


def form_table(children):
    """The dict of the form of each place, from the dict of all places' children."""
    ordered = []
    level = [OUTSIDE]
    while level:
        ordered.extend(level)
        level = [child for place in level for child in children[place]]
    forms = {}
    # From the innermost places outwards, so that no depth is too great.
    for place in reversed(ordered):
        forms[place] = tuple(sorted([forms[child] for child in children[place]]))
    return forms


def form_of(picture):
    """The form of the outside."""
    return form_table(child_table(picture))[OUTSIDE]


def matched(one, other):
    """A match of two pictures, None if their trees are unlike."""
    children, other_children = child_table(one), child_table(other)
    forms, other_forms = form_table(children), form_table(other_children)
    if forms[OUTSIDE] != other_forms[OUTSIDE]:
        return None
    pairs = []
    level = [(OUTSIDE, OUTSIDE)]
    while level:
        pairs.extend(level)
        below = []
        for place, image in level:
            lefts = sorted(children[place], key=lambda child: forms[child])
            rights = sorted(other_children[image], key=lambda twin: other_forms[twin])
            below.extend(list(zip(lefts, rights)))
        level = below
    return tuple(sorted(pairs))


def is_place(value, parents):
    """Whether any value is the outside or one of the places that have parents."""
    if not isinstance(value, tuple):
        return False
    if value == OUTSIDE:
        return True
    # Its kind first: True would be found as 1, and a list could not be looked up.
    return len(value) == 2 and isinstance(value[0], str) and is_cell(value[1]) and value in parents


def is_pairing(value, parents, other_parents):
    """Whether any value is an ascending tuple of unlike pairs of places of the one and the other."""
    if not isinstance(value, tuple):
        return False
    for pair in value:
        if not (isinstance(pair, tuple) and len(pair) == 2):
            return False
        if not (is_place(pair[0], parents) and is_place(pair[1], other_parents)):
            return False
    return is_ascending(value)


def least_place(word, places):
    """The fault that tells the least of some places, None if there are none."""
    return (word, min(places)) if len(places) > 0 else None


def twice_in(counts):
    """The fault that a place is counted twice, None if none is."""
    return least_place("twice", [place for place in counts if counts[place] > 1])


def counts_of(places, told):
    """The dict of how often each of the places stands in those told, the outside among them."""
    counts = {place: 0 for place in (OUTSIDE, *places)}
    for place in told:
        counts[place] += 1
    return counts


def count_fault(parents, other_parents, value):
    """The fault that a place of the one or the other does not stand in just one pair."""
    firsts = counts_of(parents, [pair[0] for pair in value])
    seconds = counts_of(other_parents, [pair[1] for pair in value])
    lacking = [place for place in firsts if firsts[place] == 0]
    resting = [place for place in seconds if seconds[place] == 0]
    fault = least_place("lacks", lacking) or twice_in(firsts) or twice_in(seconds)
    return fault or least_place("rest", resting)


def kind_fault(parents, other_parents, value):
    """The fault that a place goes to another kind, or its parent to another one's parent."""
    images = {place: image for place, image in value}
    unlike = [place for place in images if place[0] != images[place][0]]
    if len(unlike) > 0:
        return least_place("kind", unlike)
    torn = [place for place in parents if images[parents[place]] != other_parents[images[place]]]
    return least_place("parent", torn)


def judge_match(one, other, value):
    """None if any value is a match of two pictures, else the first fault."""
    parents, other_parents = parent_table(one), parent_table(other)
    if not is_pairing(value, parents, other_parents):
        return ("form",)
    return count_fault(parents, other_parents, value) or kind_fault(parents, other_parents, value)


def is_within(picture, place, cell):
    """Whether a place stands in what is around a cell."""
    return place in around(picture, cell)


def filled(picture):
    """The picture with all cells that are within some piece black."""
    return united(picture, inside_out(picture))


def outer_part(picture):
    """The picture of the pieces whose parent is the outside."""
    names = children_of(picture, OUTSIDE)
    return picture_of(cells_told([piece for piece in pieces(picture) if ("piece", piece[0]) in names]))


def inside_out(picture):
    """The picture whose black cells are those of all holes."""
    return picture_of(cells_told(holes(picture)))

"""Arcs of lines between two wires, and the points and regions that lie within a lens of them."""

from rimread.lines import trails_of
from rimread.plate import corners_in_order
from rimread.regions import regions_of


# Told is a list of the arcs between the wires of two places in a trail, each as (wires, corners): what the line
# crosses and comes by between the two. Of a closed line there are two such arcs.
def arcs_between(trail, one, other):
    first = min(one, other)
    last = max(one, other)
    corners = trail[2]
    wires = trail[3]
    arcs = [(wires[first + 1:last], corners[first + 1:last + 1])]
    if trail[0] is None:
        arcs.append((wires[last + 1:] + wires[:first], corners[last + 1:] + corners[:first + 1]))
    return arcs


# Told is a dict: for each wire its two crossings, as tuples (number of the trail, place in it).
def crossings_of(trails):
    crossings = {}
    for number, trail in enumerate(trails):
        for place, wire in enumerate(trail[3]):
            crossings.setdefault(wire, []).append((number, place))
    return crossings


# The arcs of one crossing of a wire and of one of another wire; none where two lines cross them there.
def arcs_joining(trails, one, other):
    if one[0] != other[0]:
        return []
    return arcs_between(trails[one[0]], one[1], other[1])


def pairs_of_arcs(arcs, others):
    pairs = []
    for one in arcs:
        pairs.extend([(one[0] + other[0], one[1] + other[1]) for other in others])
    return pairs


# Round a lens without a knot no wire is come to twice, but those at which its arcs begin and end.
def is_plain(arc, poles):
    return len(set(arc[0])) == len(arc[0]) and not any([pole in arc[0] for pole in poles])


# Told are the corners round each lens: of a line that meets itself, and of two arcs, also of one line, that
# meet at two wires. Where a net isn't lean, one of them is plain.
def plain_lenses(net):
    trails = trails_of(net)
    crossings = crossings_of(trails)
    lenses = []
    wires = sorted(crossings)
    for number, wire in enumerate(wires):
        near = crossings[wire]
        arcs = arcs_joining(trails, near[0], near[1])
        lenses.extend([arc[1] for arc in arcs if is_plain(arc, [wire])])
        for pole in wires[number + 1:]:
            far = crossings[pole]
            straight = pairs_of_arcs(arcs_joining(trails, near[0], far[0]), arcs_joining(trails, near[1], far[1]))
            crossed = pairs_of_arcs(arcs_joining(trails, near[0], far[1]), arcs_joining(trails, near[1], far[0]))
            lenses.extend([arc[1] for arc in straight + crossed if is_plain(arc, [wire, pole])])
    return lenses


# Points and regions lie side by side where a line runs between them: at each corner just one does. Told is a dict:
# for each point (by its name) and region (by its number) tuples (corner, what lies on the other side).
def sides_of(net, regions):
    sides = dict([(corner[0], []) for corner in corners_in_order(net)])
    for number, region in enumerate(regions):
        sides[number] = [(corner, corner[0]) for corner in region]
        for corner in region:
            sides[corner[0]].append((corner, number))
    return sides


# The points and regions that one comes to from the rim only over the lines at these corners.
def lying_within(net, sides, corners):
    barred = dict([(corner, True) for corner in corners])
    reached = dict([(post, True) for post in net[0]])
    waiting = list(net[0])
    while len(waiting) > 0:
        face = waiting.pop()
        for corner, other in sides[face]:
            if corner not in barred and other not in reached:
                reached[other] = True
                waiting.append(other)
    return [inner for inner in sides if inner not in reached]


# Of a net that isn't lean: of all plain lenses one with the fewest points and regions within; of these the points
# (by their names) and the regions (as lists of corners) that have three corners, one of them at least on the lens.
# Turned by a star or a ring, each leaves the lens with one fewer within. There is such a one where more than one lies
# within: no line comes back over the side of the least lens over which it came in, and no two meet in it twice.
def to_be_turned(net):
    regions = regions_of(net)
    sides = sides_of(net, regions)
    lenses = [(corners, lying_within(net, sides, corners)) for corners in plain_lenses(net)]
    least = min(lenses, key=lambda lens: len(lens[1]))
    found = []
    for face in least[1]:
        if len(sides[face]) == 3 and any([corner in least[0] for corner, other in sides[face]]):
            found.append(regions[face] if isinstance(face, int) else face)
    return found

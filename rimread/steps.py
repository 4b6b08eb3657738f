"""Steps: what comes of a loop, a dead end, a chain, twins, a star or a ring; posts and answer table stay."""

from rimread.errors import NoStep
from rimread.fractions import over, plus, times
from rimread.names import is_name
from rimread.nets import points_of, points_within
from rimread.plate import ends_by_wire, other_ends
from rimread.regions import regions_of

STEP_LENGTHS = {"loop": 2, "dead": 2, "chain": 2, "twins": 3, "star": 2, "ring": 5}


# What a step changes: `instead` tells for some ends the wires that come in their place, `gone` the points that go,
# `worths` the worths that are new. No step brings in a wire of a new name, so the worths stay sorted.
def changed(net, instead, gone, worths):
    rows = []
    standing = {}
    for point, wires in net[1]:
        if point not in gone:
            kept = []
            for place, wire in enumerate(wires):
                kept.extend(instead.get((point, place), [wire]))
            rows.append((point, kept))
            standing.update([(wire, True) for wire in kept])
    return (list(net[0]), rows, [(wire, worths.get(wire, worth)) for wire, worth in net[2] if wire in standing])


def ends_asked(net, wire):
    ends = ends_by_wire(net)
    if wire not in ends:
        raise NoStep("the net has no wire of this name")
    return ends[wire]


def has_unlike_wires(wires, count):
    return len(wires) == count and len(set(wires)) == count


def wires_asked(net, point, count):
    if point not in points_within(net):
        raise NoStep("the net has no point within of this name")
    wires = dict(net[1])[point]
    if not has_unlike_wires(wires, count):
        raise NoStep("the point has other ends than the step asks for")
    return wires


def points_tied(ends):
    return sorted([point for point, place in ends])


def is_loop(ends):
    return ends[0][0] == ends[1][0]


# The points within that have no other end than one of these.
def dead_points(net, ends):
    wires_round = dict(net[1])
    return [point for point, place in ends if point not in net[0] and len(wires_round[point]) == 1]


def loop_done(net, wire):
    ends = ends_asked(net, wire)
    if not is_loop(ends):
        raise NoStep("a loop has both ends at one point")
    return changed(net, {ends[0]: [], ends[1]: []}, [], {})


def dead_done(net, wire):
    ends = ends_asked(net, wire)
    gone = dead_points(net, ends)
    if len(gone) == 0:
        raise NoStep("a dead end has an end at a point within that has no other one")
    return changed(net, {ends[0]: [], ends[1]: []}, gone, {})


def chain_done(net, point):
    wires = wires_asked(net, point, 2)
    lesser = min(wires)
    far = other_ends(net)[(point, wires.index(max(wires)))]
    worths = dict(net[2])
    one = worths[wires[0]]
    other = worths[wires[1]]
    return changed(net, {far: [lesser]}, [point], {lesser: over(times(one, other), plus(one, other))})


def twins_done(net, one, other):
    ends = ends_asked(net, one)
    if one == other or is_loop(ends) or points_tied(ends) != points_tied(ends_asked(net, other)):
        raise NoStep("twins are two wires that tie the same two unlike points")
    worths = dict(net[2])
    going = ends_asked(net, max(one, other))
    return changed(net, {going[0]: [], going[1]: []}, [], {min(one, other): plus(worths[one], worths[other])})


def star_done(net, point):
    wires = wires_asked(net, point, 3)
    far = other_ends(net)
    old = [dict(net[2])[wire] for wire in wires]
    whole = plus(plus(old[0], old[1]), old[2])
    instead = {}
    worths = {}
    for place, wire in enumerate(wires):
        # Counted backwards all round: the wire ahead, and the one ahead of that.
        instead[far[(point, place)]] = [wires[place - 1], wires[place - 2]]
        worths[wire] = over(times(old[place - 1], old[place - 2]), whole)
    return changed(net, instead, [point], worths)


# Told is a dict of True.
def corners_at_rim(net):
    wires_round = dict(net[1])
    first = [((post, 0), True) for post in net[0]]
    return dict(first + [((post, len(wires_round[post])), True) for post in net[0]])


def wires_gone_over(net, region):
    wires_round = dict(net[1])
    return [wires_round[point][place] for point, place in region]


def regions_of_three(net):
    at_rim = corners_at_rim(net)
    regions = [region for region in regions_of(net) if len(region) == 3]
    return [region for region in regions if not any([corner in at_rim for corner in region])]


def region_asked(net, wires):
    if has_unlike_wires(wires, 3):
        for region in regions_of_three(net):
            if sorted(wires_gone_over(net, region)) == sorted(wires):
                return region
    raise NoStep("a ring is of three unlike wires round one region away from the rim")


def ring_done(net, wires, point):
    region = region_asked(net, wires)
    if not is_name(point) or point in points_of(net):
        raise NoStep("the ring's point has a name that no other point has")
    over_wires = wires_gone_over(net, region)
    wires_round = dict(net[1])
    instead = {}
    for number, corner in enumerate(region):
        ahead = (corner[1] - 1) % len(wires_round[corner[0]])
        instead[(corner[0], ahead)] = []
        # Counted backwards all round: the corner's own wire, the one ahead of it, the third one.
        instead[corner] = [over_wires[number - 2]]
    old = [dict(net[2])[wire] for wire in over_wires]
    whole = plus(plus(times(old[0], old[1]), times(old[1], old[2])), times(old[2], old[0]))
    worths = dict([(wire, over(whole, worth)) for wire, worth in zip(over_wires, old)])
    left = changed(net, instead, [], worths)
    return (left[0], left[1] + [(point, list(reversed(over_wires)))], left[2])


def step_done(net, step):
    if len(step) == 0 or STEP_LENGTHS.get(step[0]) != len(step):
        raise NoStep("there is no such step")
    kind = step[0]
    if kind == "loop":
        return loop_done(net, step[1])
    if kind == "dead":
        return dead_done(net, step[1])
    if kind == "chain":
        return chain_done(net, step[1])
    if kind == "twins":
        return twins_done(net, step[1], step[2])
    if kind == "star":
        return star_done(net, step[1])
    return ring_done(net, list(step[1:4]), step[4])


def steps_for_wires(net):
    ends = ends_by_wire(net)
    steps = [("loop", wire) for wire in ends if is_loop(ends[wire])]
    steps.extend([("dead", wire) for wire in ends if len(dead_points(net, ends[wire])) > 0])
    return steps


def steps_for_points(net):
    wires_round = dict(net[1])
    within = points_within(net)
    steps = [("chain", point) for point in within if has_unlike_wires(wires_round[point], 2)]
    steps.extend([("star", point) for point in within if has_unlike_wires(wires_round[point], 3)])
    return steps


def steps_for_twins(net):
    ends = ends_by_wire(net)
    ties = [wire for wire in sorted(ends) if not is_loop(ends[wire])]
    steps = []
    for number, one in enumerate(ties):
        tied = points_tied(ends[one])
        steps.extend([("twins", one, other) for other in ties[number + 1:] if points_tied(ends[other]) == tied])
    return steps


def steps_for(net):
    return sorted(steps_for_wires(net) + steps_for_points(net) + steps_for_twins(net))

"""Lines: from each place on the rim through the net, and the closed ones."""

from rimread.plate import corners_in_order, other_ends


# A line stands at a corner, in one of two turns: a tuple (corner, sunwise). Sunwise it crosses the end
# of the corner's own place next, else the end ahead of the corner. Where it crosses none, it ends at the rim.
def turned(standing):
    return (standing[0], not standing[1])


# Told is a dict: the corner behind each end.
def corners_behind_ends(net):
    behind = {}
    for point, wires in net[1]:
        for place in range(len(wires)):
            # Round a point within the corner behind the last end is the first one.
            last = place + 1 == len(wires) and point not in net[0]
            behind[(point, place)] = (point, 0 if last else place + 1)
    return behind


# Told is a dict: for each corner and turn (wire, corner and turn): what is crossed next, and where one comes to.
def goings_of(net):
    wires_round = dict(net[1])
    behind = corners_behind_ends(net)
    goings = {}
    for end, far in other_ends(net).items():
        wire = wires_round[end[0]][end[1]]
        goings[(end, True)] = (wire, (far, False))
        goings[(behind[end], False)] = (wire, (behind[far], True))
    return goings


# Told is a list: where the line from each place stands at first.
def starts_of(net):
    wires_round = dict(net[1])
    starts = []
    for post in net[0]:
        starts.append(((post, len(wires_round[post])), False))
        starts.append(((post, 0), True))
    return starts


# Told is (corners, wires, last): the corners that one comes by, those at both ends too; the wires between them;
# and where one stands at last, at the rim. A closed line comes back to where it began, and is told up to there.
def gone_from(start, goings):
    corners = [start[0]]
    wires = []
    standing = start
    while standing in goings:
        wire = goings[standing][0]
        standing = goings[standing][1]
        wires.append(wire)
        if standing == start:
            break
        corners.append(standing[0])
    return (corners, wires, standing)


# Trails are tuples (first, last, corners, wires), first and last None for closed ones. Of a trail from place
# to place the wire k lies between the corners k and k + 1, also of a closed one, where behind the last corner
# comes the first one again. Each corner is in just one trail.
def trails_of(net):
    goings = goings_of(net)
    starts = starts_of(net)
    passed = {}
    trails = []
    for place, start in enumerate(starts):
        if start[0] not in passed:
            gone = gone_from(start, goings)
            trails.append((place, starts.index(turned(gone[2])), gone[0], gone[1]))
            passed.update([(corner, True) for corner in gone[0]])
    for corner in corners_in_order(net):
        if corner not in passed:
            gone = gone_from((corner, True), goings)
            trails.append((None, None, gone[0], gone[1]))
            passed.update([(member, True) for member in gone[0]])
    return trails


def least_round(wires):
    backwards = list(reversed(wires))
    begun = []
    for start in range(len(wires)):
        begun.append(wires[start:] + wires[:start])
        begun.append(backwards[start:] + backwards[:start])
    return min(begun)


def line_from(net, place):
    starts = starts_of(net)
    gone = gone_from(starts[place], goings_of(net))
    return (starts.index(turned(gone[2])), gone[1])


def lines_of(net):
    trails = trails_of(net)
    joining = [(first, last, wires) for first, last, corners, wires in trails if first is not None]
    closed = [least_round(wires) for first, last, corners, wires in trails if first is None]
    return joining + [(None, None, wires) for wires in sorted(closed)]

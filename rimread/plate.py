"""What the parts of a net have to do with one another: ends, corners, who hangs on whom, and how strongly."""

from rimread.fractions import NOUGHT, minus, plus


# Wires stand in the order in which the rows name them first, the ends of each in the order of rows.
def ends_by_wire(net):
    ends = {}
    for point, wires in net[1]:
        for place, wire in enumerate(wires):
            ends.setdefault(wire, []).append((point, place))
    return ends


def other_ends(net):
    others = {}
    for pair in ends_by_wire(net).values():
        others[pair[0]] = pair[1]
        others[pair[1]] = pair[0]
    return others


# Told as a dict of True: the posts themselves, and all that hangs on one of them.
def hanging_points(net):
    wires_round = dict(net[1])
    others = other_ends(net)
    hanging = dict([(post, True) for post in net[0]])
    waiting = list(net[0])
    while len(waiting) > 0:
        point = waiting.pop()
        for place in range(len(wires_round[point])):
            far = others[(point, place)][0]
            if far not in hanging:
                hanging[far] = True
                waiting.append(far)
    return hanging


def corners_in_order(net):
    corners = []
    for point, wires in net[1]:
        count = len(wires)
        # The rim parts the first corner of a post from its last one, which are one round a point within.
        if point in net[0]:
            count = count + 1
        corners.extend([(point, place) for place in range(count)])
    return corners


# Told as a dict: for each corner the one behind it, as one goes round the region with the region on the left.
def corners_behind(net):
    corners = corners_in_order(net)
    known = dict([(corner, True) for corner in corners])
    others = other_ends(net)
    behind = {}
    for corner in corners:
        # The end that one goes over from a corner has the corner's own place.
        if corner in others:
            far = others[corner]
            reached = (far[0], far[1] + 1)
            behind[corner] = reached if reached in known else (far[0], 0)
        else:
            # Only the last corner of a post has no such end; there the rim leads on.
            behind[corner] = (net[0][net[0].index(corner[0]) - 1], 0)
    return behind


# Told as a dict by two points: what flows in at the one for the height 1 at the other one alone.
# A loop needs no care: what it adds at its point it takes off there again.
def pulls_of(net):
    worths = dict(net[2])
    pulls = {}
    for wire, pair in ends_by_wire(net).items():
        for near, far in ((pair[0][0], pair[1][0]), (pair[1][0], pair[0][0])):
            pulls[(near, near)] = plus(pulls.get((near, near), NOUGHT), worths[wire])
            pulls[(near, far)] = minus(pulls.get((near, far), NOUGHT), worths[wire])
    return pulls

"""Wires of a lean net that can be peeled at the rim, and the net without such a one."""

from rimread.plate import ends_by_wire
from rimread.steps import changed


# Told is "edge", "spike", or None where the wire can't be peeled.
def kind_of_peel(net, ends):
    wires_round = dict(net[1])
    posts = [point for point, place in ends if point in net[0]]
    if len(posts) == 2:
        return "edge"
    if len(posts) == 1 and len(wires_round[posts[0]]) == 1:
        return "spike"
    return None


def peelable(net):
    ends = ends_by_wire(net)
    kinds = [(kind_of_peel(net, ends[wire]), wire) for wire in sorted(ends)]
    return [(kind, wire) for kind, wire in kinds if kind is not None]


# The post takes the place of the point within.
def spike_shrunk(net, ends):
    post_end = ends[0]
    end = ends[1]
    if end[0] in net[0]:
        post_end = ends[1]
        end = ends[0]
    wires = dict(net[1])[end[0]]
    return changed(net, {post_end: wires[end[1] + 1:] + wires[:end[1]]}, [end[0]], {})


def peeled(net, wire):
    ends = ends_by_wire(net)[wire]
    if kind_of_peel(net, ends) == "edge":
        return changed(net, {ends[0]: [], ends[1]: []}, [], {})
    return spike_shrunk(net, ends)

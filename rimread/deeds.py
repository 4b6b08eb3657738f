"""Deeds on a net: a wire laid, grown, cut or weighed, or a step; or the refusal that is due first."""

from rimread.errors import NoCorner, NoRegion, NoWire, NoWorth, Taken, TooMany
from rimread.fractions import is_worth
from rimread.laying import with_wire_at
from rimread.names import is_name
from rimread.nets import points_of, points_within
from rimread.plate import corners_in_order, ends_by_wire, hanging_points
from rimread.regions import regions_of
from rimread.steps import changed, step_done

MOST_WIRES = 15
MOST_WITHIN = 10
GREATEST_PART = 1000


def vet_corner(net, corner):
    if corner not in corners_in_order(net):
        raise NoCorner("the net has no such corner")


def vet_region(net, one, other):
    if not any([one in region and other in region for region in regions_of(net)]):
        raise NoRegion("the two corners are of unlike regions")


def vet_new_name(name, taken):
    if not is_name(name) or name in taken:
        raise Taken("the name is none, or stands already")


def vet_worth(worth):
    if not is_worth(worth) or max(worth) > GREATEST_PART:
        raise NoWorth("a worth is above 0, its top and its bottom at most 1,000")


def vet_wire(net, wire):
    if wire not in ends_by_wire(net):
        raise NoWire("the net has no wire of this name")


def vet_one_wire_more(net):
    if len(net[2]) >= MOST_WIRES:
        raise TooMany("a net has at most fifteen wires")


def vet_one_point_more(net):
    if len(points_within(net)) >= MOST_WITHIN:
        raise TooMany("a net has at most ten points within")


def laid(net, one, other, wire, worth):
    vet_corner(net, one)
    vet_corner(net, other)
    vet_region(net, one, other)
    vet_new_name(wire, ends_by_wire(net))
    vet_worth(worth)
    vet_one_wire_more(net)
    return with_wire_at(net, [one, other], wire, worth)


def grown(net, corner, wire, worth, point):
    vet_corner(net, corner)
    vet_new_name(wire, ends_by_wire(net))
    vet_new_name(point, points_of(net))
    vet_worth(worth)
    vet_one_wire_more(net)
    vet_one_point_more(net)
    left = with_wire_at(net, [corner], wire, worth)
    return (left[0], left[1] + [(point, [wire])], left[2])


def cut(net, wire):
    vet_wire(net, wire)
    ends = ends_by_wire(net)[wire]
    left = changed(net, {ends[0]: [], ends[1]: []}, [], {})
    hanging = hanging_points(left)
    return changed(left, {}, [point for point in points_of(left) if point not in hanging], {})


def weighed(net, wire, worth):
    vet_wire(net, wire)
    vet_worth(worth)
    return changed(net, {}, [], {wire: worth})


def stepped(net, step):
    left = step_done(net, step)
    if step[0] == "ring":
        vet_one_point_more(net)
    return left


def deed_done(net, deed):
    kind = deed[0]
    if kind == "lay":
        return laid(net, deed[1], deed[2], deed[3], deed[4])
    if kind == "grow":
        return grown(net, deed[1], deed[2], deed[3], deed[4])
    if kind == "cut":
        return cut(net, deed[1])
    if kind == "weigh":
        return weighed(net, deed[1], deed[2])
    return stepped(net, deed)

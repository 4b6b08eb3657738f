"""Nets of wires in a plate: vetted, and asked for their points within, their ends and their corners."""

from rimread.errors import Loose, NoNet, NoPlane
from rimread.fractions import is_worth
from rimread.names import is_name
from rimread.plate import corners_in_order, ends_by_wire, hanging_points, other_ends
from rimread.regions import regions_of


def points_of(net):
    return [point for point, wires in net[1]]


def vet_names(net):
    if not all([is_name(name) for name in net[0] + points_of(net) + list(ends_by_wire(net))]):
        raise NoNet("a name has one to eight signs, small letters or figures")


def vet_points(net):
    points = points_of(net)
    if len(set(points)) != len(points):
        raise NoNet("a point has one row alone")
    if len(set(net[0])) != len(net[0]):
        raise NoNet("a post is listed once alone")
    if not all([post in points for post in net[0]]):
        raise NoNet("each post has a row")


def vet_wires(net):
    if not all([len(ends) == 2 for ends in ends_by_wire(net).values()]):
        raise NoNet("each wire stands just twice in all rows together")


def vet_worths(net):
    if [wire for wire, worth in net[2]] != sorted(ends_by_wire(net)):
        raise NoNet("the worths are those of all wires, sorted by the names")
    if not all([is_worth(worth) for wire, worth in net[2]]):
        raise NoNet("a worth is a fraction above 0 in lowest terms")


# The parts that ask for ends and corners may be called only where each wire has two ends and each post a row.
def vet(net):
    vet_names(net)
    vet_points(net)
    vet_wires(net)
    vet_worths(net)
    if len(hanging_points(net)) != len(net[1]):
        raise Loose("each point hangs on a post")
    if len(net[1]) + len(regions_of(net)) != len(net[2]) + len(net[0]) + 1:
        raise NoPlane("the wires don't lie in a plate as the rows tell them")
    return True


def points_within(net):
    return [point for point in points_of(net) if point not in net[0]]


def ends_of(net, wire):
    return ends_by_wire(net)[wire]


def other_end(net, end):
    return other_ends(net)[end]


def corners_of(net):
    return corners_in_order(net)

"""Shapes of lean nets: which places their lines join, and in which order the lines meet."""

from rimread.lenses import lines_by_wire
from rimread.lines import lines_of


# Told are tuples (first, last), line by line; nets with unlike numbers of posts join unlike places.
def places_joined(net):
    return [(first, last) for first, last, wires in lines_of(net)]


def meets_of(net):
    numbers = lines_by_wire(net)
    meets = []
    for number, line in enumerate(lines_of(net)):
        # A wire that a line of a lean net crosses is crossed by that line and by one other.
        meets.append([sum(numbers[wire]) - number for wire in line[2]])
    return meets


def same_shape(one, other):
    return places_joined(one) == places_joined(other) and meets_of(one) == meets_of(other)

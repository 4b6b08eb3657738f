"""Lenses: where a line meets itself, or two lines meet twice; a net without one is lean."""

from rimread.lines import lines_of


# Told is a dict: for each wire the numbers of the two lines that cross it, the lesser first.
def lines_by_wire(net):
    numbers = {}
    for number, line in enumerate(lines_of(net)):
        for wire in line[2]:
            numbers.setdefault(wire, []).append(number)
    return numbers


def lens_of(net):
    met = {}
    numbers = lines_by_wire(net)
    for wire in sorted(numbers):
        one = numbers[wire][0]
        other = numbers[wire][1]
        if one == other:
            return (one, wire)
        if (one, other) in met:
            return (one, other, met[(one, other)], wire)
        met[(one, other)] = wire
    return None


def is_lean(net):
    return lens_of(net) is None

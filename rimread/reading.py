"""Worths of a lean net read back from its answer table and its shape, wire by wire from the rim."""

from rimread.fractions import NOUGHT, less, minus, over, plus, times
from rimread.grids import determinant
from rimread.peeling import peelable, peeled
from rimread.plate import ends_by_wire
from rimread.runs import facing_runs, grid_part, minor_of


# The ratios of the minors of runs in which the two posts stand at one place to the minors without them. Taking off an
# edge of some worth lessens each of them by it, and for one at least nothing is left without the edge.
def edge_ratios(table, one, other):
    ratios = []
    for P, Q in facing_runs(len(table)):
        for place in range(len(P)):
            if sorted([P[place], Q[place]]) == sorted([one, other]):
                rest = minor_of(table, P[:place] + P[place + 1:], Q[:place] + Q[place + 1:])
                if rest != NOUGHT:
                    ratios.append(over(minor_of(table, P, Q), rest))
    return ratios


def edge_worth(table, one, other):
    ratios = edge_ratios(table, one, other)
    least = ratios[0]
    for ratio in ratios:
        if less(ratio, least):
            least = ratio
    return least


# A spike is worth as much as each of the ratios at least, for shrunk it leaves no minor below 0; and shrunk it leaves
# nothing of one minor at least.
def spike_worth(table, post):
    greatest = table[post][post]
    for P, Q in [runs for runs in facing_runs(len(table)) if post not in runs[0] + runs[1]]:
        rest = determinant(grid_part(table, P, Q))
        if rest != NOUGHT:
            ratio = over(determinant(grid_part(table, P + [post], Q + [post])), rest)
            if less(greatest, ratio):
                greatest = ratio
    return greatest


def table_less_edge(table, one, other, worth):
    left = [list(row) for row in table]
    for near, far in ((one, other), (other, one)):
        left[near][near] = minus(left[near][near], worth)
        left[near][far] = plus(left[near][far], worth)
    return left


def table_less_spike(table, post, worth):
    rest = minus(worth, table[post][post])
    left = []
    for row in table:
        share = over(row[post], rest)
        left.append([plus(entry, times(share, beside)) for entry, beside in zip(row, table[post])])
    return left


# Told are the numbers of the posts that the wire is at: two of an edge, one of a spike.
def posts_at(net, wire):
    return [net[0].index(point) for point, place in ends_by_wire(net)[wire] if point in net[0]]


def worth_read(net, table, wire):
    posts = posts_at(net, wire)
    if len(posts) == 2:
        return edge_worth(table, posts[0], posts[1])
    return spike_worth(table, posts[0])


def table_without(table, posts, worth):
    if len(posts) == 2:
        return table_less_edge(table, posts[0], posts[1], worth)
    return table_less_spike(table, posts[0], worth)


def table_peeled(net, table, wire):
    return table_without(table, posts_at(net, wire), worth_read(net, table, wire))


def worths_read(net, table):
    worths = []
    while len(net[2]) > 0:
        wire = peelable(net)[0][1]
        worth = worth_read(net, table, wire)
        worths.append((wire, worth))
        table = table_without(table, posts_at(net, wire), worth)
        net = peeled(net, wire)
    return sorted(worths)

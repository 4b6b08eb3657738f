"""Heights that balance at the points within, and what flows in at the posts."""

from rimread.fractions import NOUGHT, minus
from rimread.grids import multiplied, solved
from rimread.nets import points_of, points_within
from rimread.plate import pulls_of


def pull_grid(pulls, points, others):
    return [[pulls.get((point, other), NOUGHT) for other in others] for point in points]


# The settings are the columns of a grid with a row for each post: all of them are solved for at once.
# Told is a grid with a row for each point, in the order of rows.
def heights_for(net, settings):
    posts = net[0]
    within = points_within(net)
    pulls = pulls_of(net)
    drawn = multiplied(pull_grid(pulls, within, posts), settings)
    balancing = [[minus(NOUGHT, entry) for entry in row] for row in drawn]
    balanced = solved(pull_grid(pulls, within, within), balancing)
    heights = dict(zip(posts + within, settings + balanced))
    return [heights[point] for point in points_of(net)]


def flows_for(net, settings):
    pulls = pull_grid(pulls_of(net), net[0], points_of(net))
    return multiplied(pulls, heights_for(net, settings))


def heights_of(net, setting):
    rows = heights_for(net, [[height] for height in setting])
    return [(point, row[0]) for point, row in zip(points_of(net), rows)]


def flows_of(net, setting):
    return [row[0] for row in flows_for(net, [[height] for height in setting])]

"""The whole table of a net, and points taken out of such a grid one by one."""

from rimread.errors import NoAnswer
from rimread.fractions import NOUGHT, minus, over, times
from rimread.heights import pull_grid
from rimread.nets import points_of
from rimread.plate import pulls_of


def whole_table(net):
    points = points_of(net)
    return pull_grid(pulls_of(net), points, points)


def taken_out(grid, k):
    if grid[k][k] == NOUGHT:
        raise NoAnswer("a point whose entry on the diagonal is 0 can't be taken out")
    others = [i for i in range(len(grid)) if i != k]
    left = []
    for i in others:
        share = over(grid[i][k], grid[k][k])
        left.append([minus(grid[i][j], times(share, grid[k][j])) for j in others])
    return left


def table_by_taking(net, points):
    grid = whole_table(net)
    left = points_of(net)
    for point in points:
        grid = taken_out(grid, left.index(point))
        left.remove(point)
    numbers = [left.index(post) for post in net[0]]
    return [[grid[i][j] for j in numbers] for i in numbers]

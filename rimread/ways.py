"""Ways of two facing runs that share no point, or a cut of fewer points."""

from rimread.nets import points_within
from rimread.plate import ends_by_wire


# A walker comes to a point, then leaves it: (point, False), (point, True). Told is a dict: for each of these a dict of
# those that may follow. Ways begin at the starts, end at the goals, and go over points within between.
def steps_open(net, starts, goals):
    within = points_within(net)
    onward = {}
    for point in starts + within + goals:
        onward[(point, False)] = {(point, True): True}
        onward[(point, True)] = {}
    for pair in ends_by_wire(net).values():
        for near, far in ((pair[0][0], pair[1][0]), (pair[1][0], pair[0][0])):
            if near != far and near in starts + within and far in within + goals:
                onward[(near, True)][(far, False)] = True
    return onward


# Told is a dict: for each place that a walker can be at, the one he came from (None at the starts).
def reached_from(starts, onward):
    came_from = dict([((start, False), None) for start in starts])
    waiting = list(came_from)
    while len(waiting) > 0:
        here = waiting.pop()
        for there in onward[here]:
            if there not in came_from:
                came_from[there] = here
                waiting.append(there)
    return came_from


# No step is gone twice, but each may be gone back afterwards, so that ways laid first don't bar better ones.
def lay_one_way_more(onward, came_from, goal):
    there = (goal, True)
    while came_from[there] is not None:
        here = came_from[there]
        onward[here].pop(there)
        onward[there][here] = True
        there = here


# The steps along wires that may be gone back are those that were gone.
def ways_laid(starts, onward):
    follower = {}
    for here, steps in onward.items():
        for there in steps:
            if not here[1] and there[0] != here[0]:
                follower[there[0]] = here[0]
    ways = []
    for start in starts:
        way = [start]
        while way[-1] in follower:
            way.append(follower[way[-1]])
        ways.append(way)
    return ways


# In a plate ways that share no point can't lead to the goals in another order than that of facing runs.
def ways_or_cut(net, P, Q):
    starts = [net[0][number] for number in P]
    goals = [net[0][number] for number in Q]
    onward = steps_open(net, starts, goals)
    for start in starts:
        came_from = reached_from(starts, onward)
        ends = [goal for goal in goals if (goal, True) in came_from]
        if len(ends) == 0:
            stuck = [place[0] for place in came_from if not place[1] and (place[0], True) not in came_from]
            return ("cut", sorted(stuck))
        lay_one_way_more(onward, came_from, ends[0])
    return ("ways", ways_laid(starts, onward))

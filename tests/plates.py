"""Nets for the tests: told in short, grown by chance (of a fixed seed), or drawn with straight wires on paper."""

import itertools
import math
from fractions import Fraction

from rimread.fractions import fraction, over, plus, times
from rimread.lenses import is_lean
from rimread.lines import lines_of
from rimread.steps import step_done, steps_for

SIXTY = 10 ** 60 - 1
# Spots on one rim, sunwise.
RIM = [(-60, 25), (-39, 52), (-25, 60), (0, 65), (25, 60), (39, 52), (60, 25), (65, 0)]
RIM = RIM + [(-x, -y) for x, y in RIM]


def told(posts, rows, worths=None):
    rows = [(row.split()[0], row.split()[1:]) for row in rows]
    wires = sorted(set(wire for point, round_it in rows for wire in round_it))
    worths = worths or {}
    return (posts.split(), rows, [(wire, worths.get(wire, (1, 1))) for wire in wires])


ONE_POST = told("a", ["a"])
SIX_POSTS = told("a b c d e f", ["a", "b", "c", "d", "e", "f"])
EDGE = told("a b", ["a w", "b w"], {"w": (2, 3)})
STAR = told("a b c", ["a 1", "b 2", "c 3", "m 1 2 3"], {"1": (1, 1), "2": (2, 1), "3": (3, 1)})
POST_LOOP = told("a", ["a w w"])
LOOP_WITHIN = told("a", ["a t", "m t l l"])
TWINS = told("a b", ["a 1 2", "b 2 1"], {"1": (1, 2), "2": (1, 3)})
DEAD_END = told("a b", ["a 1 w", "b w", "m 1"], {"w": (5, 7)})
# Three posts, three points within in a ring, one of these with a dead end inside it and a loop beside that.
RING = told(
    "a b c",
    ["c 3", "x 6 1 4 7 8 8", "a 1", "y 4 2 5", "b 2", "z 6 5 3", "d 7"],
    {"1": (1, 2), "2": (2, 3), "3": (3, 5), "4": (5, 7), "5": (7, 11), "6": (11, 13), "7": (13, 17), "8": (17, 19)},
)
SAMPLES = [ONE_POST, SIX_POSTS, EDGE, STAR, POST_LOOP, LOOP_WITHIN, TWINS, DEAD_END, RING]
TRIANGLE = told("a b c", ["a 1 2", "b 3 1", "c 2 3"], {"1": (1, 2), "2": (2, 3), "3": (3, 4)})
CROSS = told("a b c d", ["a 1", "b 2", "c 3", "d 4", "m 1 2 3 4"], {"1": (1, 2), "2": (2, 3), "3": (3, 4)})
CHAIN = told("a b", ["a 1", "m 1 2", "b 2"], {"1": (1, 2), "2": (1, 3)})
# No loop, dead end, chain or twins, but one wire would do.
BRIDGE = told("a b", ["a 1 2", "m 1 4 3", "n 5 2 3", "b 5 4"], {"1": (1, 2), "3": (7, 5), "4": (2, 3), "5": (9, 4)})


# The rim as wires of its own: round a post stand the rim to the next post, its ends, and the rim from the post ahead.
# A corner is then known by what follows it sunwise.
def regions_by_rim(net):
    posts, rows, worths = net
    across = {}
    behind = {}
    standing = {}
    for number, post in enumerate(posts):
        across["IN", post] = ("OUT", posts[number - 1])
    for point, wires in rows:
        ends = [(point, place) for place in range(len(wires))]
        for end, wire in zip(ends, wires):
            if wire in standing:
                across[end] = standing[wire]
                across[standing[wire]] = end
            standing[wire] = end
        turn = ends if point not in posts else [("OUT", point)] + ends + [("IN", point)]
        for place, thing in enumerate(turn):
            behind[thing] = turn[(place + 1) % len(turn)]
    count = {point: len(wires) for point, wires in rows}
    regions = []
    left = [thing for thing in behind if thing[0] != "OUT"]
    while left:
        region = []
        thing = left[0]
        while thing in left:
            left.remove(thing)
            region.append((thing[1], count[thing[1]]) if thing[0] == "IN" else thing)
            thing = behind[across[thing]]
        regions.append(region)
    return regions


def laid(rows, one, other, wire):
    for point, place in sorted([one, other], reverse=True):
        rows[point].insert(place, wire)


def some_worth(dice):
    return fraction(dice.randint(1, 1000), dice.randint(1, 1000))


def some_fraction(dice, most):
    return fraction(dice.randint(-most, most), dice.randint(1, most))


def some_names(dice, count):
    signs = "abcdefghijklmnopqrstuvwxyz0123456789"
    names = set()
    while len(names) < count:
        names.add("".join(dice.choice(signs) for place in range(dice.randint(1, 8))))
    names = sorted(names)
    dice.shuffle(names)
    return names


# Wire by wire, each one between two corners of one region, or from a corner to a new point.
def grown(dice, post_count, within_count, wire_count):
    names = some_names(dice, post_count + within_count)
    wires = some_names(dice, wire_count)
    posts = names[:post_count]
    rows = {post: [] for post in posts}
    new = names[post_count:]
    for wire in wires:
        net = (posts, list(rows.items()), [])
        region = dice.choice(regions_by_rim(net))
        if new and dice.randrange(wire_count) < within_count + 1:
            point, place = dice.choice(region)
            rows[new[0]] = [wire]
            rows[point].insert(place, wire)
            new = new[1:]
        else:
            laid(rows, dice.choice(region), dice.choice(region), wire)
    listed = []
    for point, round_it in rows.items():
        turn = dice.randrange(len(round_it)) if point not in posts else 0
        listed.append((point, round_it[turn:] + round_it[:turn]))
    dice.shuffle(listed)
    return (posts, listed, [(wire, some_worth(dice)) for wire in sorted(wires)])


# A net has no fewer wires than ways in which the table may change when worths do: the rank of the grid that has
# for each wire, for each two posts, the fall along it for the height 1 at the one times that for the other one.
# Just a net without a wire too many has as many wires.
def fewest_wires(net):
    within = [row[0] for row in net[1] if row[0] not in net[0]]
    ends = {}
    for point, wires in net[1]:
        for wire in wires:
            ends.setdefault(wire, []).append(point)
    pull = {(one, other): Fraction(0) for one, row in net[1] for other, row in net[1]}
    for wire, worth in net[2]:
        one, other = ends[wire]
        for near, far in ((one, other), (other, one)):
            pull[near, near] += Fraction(*worth)
            pull[near, far] -= Fraction(*worth)
    rows = [[pull[point, other] for other in within] + [-pull[point, post] for post in net[0]] for point in within]
    swept = cleared_rows(rows, len(within))
    heights = {point: row[len(within):] for point, row in zip(within, swept)}
    for post in net[0]:
        heights[post] = [Fraction(int(post == other)) for other in net[0]]
    falls = [[one - other for one, other in zip(heights[a], heights[b])] for a, b in ends.values()]
    changes = [[one * other for one, other in itertools.combinations(fall, 2)] for fall in falls]
    return len(cleared_rows(changes, len(changes[0]))) if changes else 0


# Rows without their noughts: each one begins with a 1 alone in its column, in order of these.
def cleared_rows(rows, columns):
    done = []
    left = rows
    for column in range(columns):
        pivot = next((row for row in left if row[column] != 0), None)
        if pivot is not None:
            left = [row for row in left if row is not pivot]
            pivot = [entry / pivot[column] for entry in pivot]
            left = [less_times(row, row[column], pivot) for row in left]
            done = [less_times(row, row[column], pivot) for row in done] + [pivot]
    return done


def less_times(row, share, other):
    return [entry - share * beside for entry, beside in zip(row, other)]


def grown_nets(dice, count):
    nets = []
    for number in range(count):
        within = dice.randint(0, 10)
        nets.append(grown(dice, dice.randint(1, 6), within, dice.randint(within, 15)))
    return nets


def turning(one, two, three):
    return (two[0] - one[0]) * (three[1] - one[1]) - (two[1] - one[1]) * (three[0] - one[0])


def lies_between(spot, one, two):
    return turning(one, two, spot) == 0 and min(one, two) <= spot <= max(one, two)


def crossing(one, other):
    a, b = one
    c, d = other
    if len({a, b, c, d}) < 4:
        return False
    return turning(a, b, c) * turning(a, b, d) < 0 and turning(c, d, a) * turning(c, d, b) < 0


def clear(line, lines, spots):
    if any(lies_between(spot, *line) for spot in spots if spot not in line):
        return False
    return not any(crossing(line, other) for other in lines)


def sunwise_from(start, here, there):
    return (start - math.atan2(there[1] - here[1], there[0] - here[0])) % (2 * math.pi)


# Told is (net, the spot of each point): sunwise on paper, the y rising upwards.
def drawn(dice, post_count, within_count, wire_count):
    start = dice.randrange(len(RIM))
    spots = [RIM[(start + number * len(RIM) // post_count) % len(RIM)] for number in range(post_count)]
    posts = ["p%d" % number for number in range(post_count)]
    place = dict(zip(posts, spots))
    while len(place) < post_count + within_count:
        spot = (dice.randint(-50, 50), dice.randint(-50, 50))
        inside = all(turning(spots[k - 1], spots[k], spot) < 0 for k in range(post_count))
        if inside and spot not in place.values():
            place["m%d" % len(place)] = spot
    pairs = [(one, other) for one in place for other in place if one < other]
    dice.shuffle(pairs)
    ties = []
    for one, other in pairs:
        lines = [(place[a], place[b]) for a, b in ties]
        if len(ties) < wire_count and clear((place[one], place[other]), lines, place.values()):
            ties.append((one, other))
    reached = set(posts)
    for turn in place:
        reached |= {end for tie in ties for end in tie if reached & set(tie)}
    ties = [tie for tie in ties if set(tie) <= reached]
    rows = []
    for point in sorted(reached):
        x, y = place[point]
        start = math.atan2(-x, y) if point in posts else 0
        ends = [(tie[1 - tie.index(point)], "w%d" % number) for number, tie in enumerate(ties) if point in tie]
        ends.sort(key=lambda end: sunwise_from(start, (x, y), place[end[0]]))
        rows.append((point, [wire for other, wire in ends]))
    wires = sorted("w%d" % number for number in range(len(ties)))
    return (posts, rows, [(wire, some_worth(dice)) for wire in wires]), place


# Drawn nets, with some posts made points within where all points hang on a post still.
def drawn_nets(dice, count, wire_count):
    nets = []
    while len(nets) < count:
        posts, rows, worths = drawn(dice, dice.randint(3, 6), dice.randint(0, 8), wire_count)[0]
        net = (posts[:dice.randint(max(1, len(posts) - 2), len(posts))], rows, worths)
        if all_hang(net):
            nets.append(net)
    return nets


def all_hang(net):
    reached = set(net[0])
    for turn in net[1]:
        wires = {wire for point, round_it in net[1] if point in reached for wire in round_it}
        reached |= {point for point, round_it in net[1] if wires & set(round_it)}
    return len(reached) == len(net[1])


# Lean nets: at the rim an edge or a spike comes on the outside, where the net stays lean. Edges lead past posts without
# wires, too. Where wires enough are asked for, all lines meet at last: fifteen wires of six posts.
def lean_grown(dice, post_count, wire_count):
    names = some_names(dice, post_count + wire_count)
    posts = names[:post_count]
    net = (posts, [(post, []) for post in dice.sample(posts, post_count)], [])
    for wire, point in zip(some_names(dice, wire_count), names[post_count:]):
        grown_ones = [with_edge(net, one, other, wire) for one, other in edge_places(dice, net)]
        grown_ones += [with_spike(net, post, wire, point) for post in posts]
        grown_ones = [one for one in grown_ones if is_lean(one)]
        if not grown_ones:
            break
        net = dice.choice(grown_ones)
    listed = []
    for point, round_it in net[1]:
        turn = dice.randrange(len(round_it)) if point not in posts else 0
        listed.append((point, round_it[turn:] + round_it[:turn]))
    return (posts, listed, [(wire, some_worth(dice)) for wire, worth in net[2]])


def edge_places(dice, net):
    wires_round = dict(net[1])
    around = [post for post in net[0] if wires_round[post] or dice.random() < 0.7]
    return [(post, around[number - 1]) for number, post in enumerate(around) if len(around) > 1]


# The edge to the post ahead stands last in the list, that from the next one first.
def with_edge(net, post, ahead, wire):
    instead = {post: lambda wires: wires + [wire], ahead: lambda wires: [wire] + wires}
    rows = [(point, instead.get(point, list)(wires)) for point, wires in net[1]]
    return (net[0], rows, sorted(net[2] + [(wire, (1, 1))]))


def with_spike(net, post, wire, name):
    rows = [(point, [wire] if point == post else wires) for point, wires in net[1]]
    return (net[0], rows + [(name, [wire] + dict(net[1])[post])], sorted(net[2] + [(wire, (1, 1))]))


def lean_nets(dice, count):
    nets = []
    for number in range(count):
        post_count = dice.randint(1, 6)
        nets.append(lean_grown(dice, post_count, dice.randint(0, post_count * (post_count - 1) // 2)))
    return nets


# A lean net of each shape of so many posts, all worths 1: as each has a wire that can be peeled at the rim, all come of
# the net without wires by wires put on there.
def all_lean_nets(post_count):
    posts = ["p%d" % number for number in range(post_count)]
    nets = [(posts, [(post, []) for post in posts], [])]
    shapes = {told_by_lines(nets[0])}
    for net in nets:
        wire = "w%02d" % len(net[2])
        grown_ones = [with_spike(net, post, wire, "m%s" % wire) for post in posts]
        for one, post in enumerate(posts):
            around = posts[one + 1:] + posts[:one]
            reached = next((number for number, other in enumerate(around) if dict(net[1])[other]), len(around) - 1)
            grown_ones += [with_edge(net, other, post, wire) for other in around[:reached + 1]]
        for other in grown_ones:
            if is_lean(other) and told_by_lines(other) not in shapes:
                shapes.add(told_by_lines(other))
                nets.append(other)
    return nets


# The places that lines join, and for each line those that cross its wires, in order.
def told_by_lines(net):
    lines = lines_of(net)
    crossed = [tuple(tuple(other[:2] for other in lines if wire in other[2]) for wire in line[2]) for line in lines]
    return tuple(line[:2] for line in lines), tuple(crossed)


def full_nets(dice, count):
    nets = []
    while len(nets) < count:
        net = lean_grown(dice, 6, 15)
        nets += [net] if len(net[2]) == 15 else []
    return nets


# The same net with other names, its rows in another order, the lists of its points within begun elsewhere.
def renamed(dice, net, posts_too=False):
    points = [point for point, wires in net[1]]
    new = dict(zip(points, some_names(dice, len(points))))
    while not posts_too and set(new.values()) & set(net[0]):
        new = dict(zip(points, some_names(dice, len(points))))
    if not posts_too:
        new.update({post: post for post in net[0]})
    names = dict(zip([wire for wire, worth in net[2]], some_names(dice, len(net[2]))))
    rows = []
    for point, wires in net[1]:
        turn = dice.randrange(len(wires)) if point not in net[0] else 0
        rows.append((new[point], [names[wire] for wire in wires[turn:] + wires[:turn]]))
    dice.shuffle(rows)
    return ([new[post] for post in net[0]], rows, sorted((names[wire], worth) for wire, worth in net[2]))


# Stars and rings done by chance.
def turned_about(dice, net, count):
    for number in range(count):
        steps = [step for step in steps_for(net) if step[0] == "star"]
        name = next("t%d" % number for number in range(99) if "t%d" % number not in dict(net[1]))
        for region in regions_by_rim(net):
            steps += ring_of(net, region, name)
        if not steps:
            break
        net = step_done(net, dice.choice(steps))
    return net


def ring_of(net, region, name):
    wires_round = dict(net[1])
    at_rim = [corner for corner in region if corner[0] in net[0] and corner[1] in (0, len(wires_round[corner[0]]))]
    if at_rim or len(region) != 3:
        return []
    wires = [wires_round[point][place] for point, place in region]
    return [("ring", *wires, name)] if len(set(wires)) == 3 else []


def all_ones(net):
    return (net[0], net[1], [(wire, (1, 1)) for wire, worth in net[2]])


def wholes(rows):
    return [[(number, 1) for number in row] for row in rows]


# By the words of the document: beginning with any, the numbers rise all round.
def stand_sunwise(numbers):
    turns = [numbers[k:] + numbers[:k] for k in range(len(numbers))]
    return any(turn == sorted(turn) for turn in turns)


def runs_by_words(n):
    runs = []
    for k in range(1, n + 1):
        found = []
        for chosen in itertools.permutations(range(n), 2 * k):
            P = list(chosen[:k])
            Q = list(chosen[k:])
            if min(chosen) in P and stand_sunwise(P + Q[::-1]):
                found.append((P, Q))
        runs += sorted(found)
    return runs


def minor_by_orders(table, P, Q):
    whole = Fraction(0)
    for order in itertools.permutations(range(len(Q))):
        swaps = sum(order[i] > order[j] for i, j in itertools.combinations(range(len(Q)), 2))
        part = Fraction((-1) ** (swaps + len(P)))
        for i, j in enumerate(order):
            part *= Fraction(*table[P[i]][Q[j]])
        whole += part
    return whole.numerator, whole.denominator


# Steps gone backwards, by chance: a loop or a dead end comes, a wire becomes a chain or twins, stars and rings are done.
# Lines and answer table stay those of the net; wires come as long as it has fewer than so many.
def thickened(dice, net, wire_count):
    while len(net[2]) < wire_count:
        posts, rows, worths = net
        rows = {point: list(wires) for point, wires in rows}
        wire = new_name(dice, [one for one, worth in worths])
        point = new_name(dice, rows)
        split = fraction(dice.randint(1, 9), dice.randint(1, 9))
        kind = dice.choice(["loop", "dead", "chain", "twins"]) if worths else dice.choice(["loop", "dead"])
        worths = dict(worths)
        if kind == "loop":
            corner = dice.choice([(at, place) for at in rows for place in range(len(rows[at]) + (at in posts))])
            laid(rows, corner, corner, wire)
            worths[wire] = split
        elif kind == "dead":
            at = dice.choice(list(rows))
            rows[at].insert(dice.randint(0, len(rows[at])), wire)
            rows[point] = [wire]
            worths[wire] = split
        else:
            beside_one(dice.choice(list(worths)), rows, worths, wire, split, point if kind == "chain" else None)
        net = turned_about(dice, (posts, list(rows.items()), sorted(worths.items())), dice.randint(0, 2))
    return net


# The wire is led over a new point, or gets a twin. Split in the ratio of 1 to the split its worth stays as a whole.
def beside_one(wire, rows, worths, new, split, point):
    near, far = [(at, place) for at in rows for place, name in enumerate(rows[at]) if name == wire]
    whole = plus((1, 1), split)
    if point is not None:
        rows[far[0]][far[1]] = new
        rows[point] = [wire, new]
        worths[new] = times(worths[wire], over(whole, split))
        worths[wire] = times(worths[wire], whole)
    elif near[0] != far[0]:
        rows[near[0]].insert(near[1] + 1, new)
        rows[far[0]].insert(far[1], new)
        worths[new] = times(worths[wire], over(split, whole))
        worths[wire] = over(worths[wire], whole)


def new_name(dice, taken):
    name = some_names(dice, 1)[0]
    while name in taken:
        name = some_names(dice, 1)[0]
    return name


def worths_by_lines(net):
    crossed = {}
    for number, line in enumerate(lines_of(net)):
        for wire in line[2]:
            crossed.setdefault(wire, []).append(number)
    return sorted((crossed[wire], worth) for wire, worth in net[2])


# What an asker may do with a net that was told to him, or that he handed in: no answer is to hang on it.
def spoil(net):
    for point, wires in net[1]:
        wires.append("x")
        wires.reverse()
    net[0].append("x")
    net[1].reverse()
    net[1].append(("y", []))
    net[2].clear()

"""Woods: sets of wires without a ring, weighed, and the answer table by them."""

from rimread.errors import TooMany
from rimread.fractions import NOUGHT, ONE, minus, over, plus, times
from rimread.nets import points_of
from rimread.plate import ends_by_wire

MOST_WIRES = 10
NO_POSTS = ()


# Each part is known by one of its points.
def with_parts_joined(part_of, one, other):
    joined = {}
    for point, part in part_of.items():
        joined[point] = one if part == other else part
    return joined


# Told are tuples (wires, part_of): part_of tells for each point the part that it hangs in.
def ringless_sets(net):
    sets = [([], dict([(point, point) for point in points_of(net)]))]
    ends = ends_by_wire(net)
    for wire in sorted(ends):
        grown = []
        for wires, part_of in sets:
            one = part_of[ends[wire][0][0]]
            other = part_of[ends[wire][1][0]]
            if one != other:
                grown.append((wires + [wire], with_parts_joined(part_of, one, other)))
        sets = sets + grown
    return sets


# The two posts that hang together, NO_POSTS where no two do; None where it is a wood of neither kind.
def posts_joined(posts, part_of):
    posts_in = dict([(part, []) for part in part_of.values()])
    for number, post in enumerate(posts):
        posts_in[part_of[post]].append(number)
    unlike_one = [tuple(numbers) for numbers in posts_in.values() if len(numbers) != 1]
    if len(unlike_one) == 0:
        return NO_POSTS
    if len(unlike_one) == 1 and len(unlike_one[0]) == 2:
        return unlike_one[0]
    return None


# Told is a dict by the posts that hang together, the lesser number first.
def woods_by_posts(net):
    if len(net[2]) > MOST_WIRES:
        raise TooMany("woods are told of nets of up to ten wires")
    woods = {NO_POSTS: []}
    for wires, part_of in ringless_sets(net):
        joined = posts_joined(net[0], part_of)
        if joined is not None:
            woods.setdefault(joined, []).append(wires)
    return woods


def woods_of(net):
    return sorted(woods_by_posts(net)[NO_POSTS])


def joined_woods(net, i, j):
    return sorted(woods_by_posts(net).get((min(i, j), max(i, j)), []))


def weight_of(net, wires):
    worths = dict(net[2])
    weight = ONE
    for wire in wires:
        weight = times(weight, worths[wire])
    return weight


def weight_of_all(net, woods):
    weight = NOUGHT
    for wires in woods:
        weight = plus(weight, weight_of(net, wires))
    return weight


def table_by_woods(net):
    woods = woods_by_posts(net)
    whole = weight_of_all(net, woods[NO_POSTS])
    table = [[NOUGHT for other in net[0]] for post in net[0]]
    for pair, joined in woods.items():
        if pair != NO_POSTS:
            i = pair[0]
            j = pair[1]
            entry = over(weight_of_all(net, joined), whole)
            table[i][j] = minus(NOUGHT, entry)
            table[j][i] = table[i][j]
            table[i][i] = plus(table[i][i], entry)
            table[j][j] = plus(table[j][j], entry)
    return table

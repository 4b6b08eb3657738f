"""A lean net for a table that is one of some net: wires taken off at the rim one by one, and put back at last."""

from rimread.fractions import NOUGHT, less
from rimread.laying import with_wire_at
from rimread.leaning import name_not_taken
from rimread.reading import edge_worth, spike_worth, table_less_spike, table_without
from rimread.runs import runs_below_nought


def posts_with_wires(table):
    return [post for post, row in enumerate(table) if any([entry != NOUGHT for entry in row])]


# The greatest wire between two posts side by side that leaves no minor below 0, as (posts, worth), or None; posts
# without wires don't count. The second of the posts is the next one.
def edge_to_take(table):
    standing = posts_with_wires(table)
    for place, post in enumerate(standing):
        ahead = standing[place - 1]
        worth = edge_worth(table, ahead, post)
        if less(NOUGHT, worth):
            return ([ahead, post], worth)
    return None


def spike_to_take(table):
    for post in posts_with_wires(table):
        worth = spike_worth(table, post)
        if less(table[post][post], worth) and runs_below_nought(table_less_spike(table, post, worth)) is None:
            return ([post], worth)
    return None


# Where there are wires, two lines from places side by side (posts without wires left out) meet one another first; at
# an edge or at a spike. Each wire that is taken off leaves one minor fewer that isn't 0, so an end comes; and as the
# wire put back brings back that minor, the two lines that meet there hadn't met yet: the net stays lean.
def wires_taken(table):
    taken = []
    while len(posts_with_wires(table)) > 0:
        wire = edge_to_take(table)
        if wire is None:
            wire = spike_to_take(table)
        taken.append(wire)
        table = table_without(table, wire[0], wire[1])
    return taken


def with_edge(net, one, other, wire, worth):
    return with_wire_at(net, [(one, 0), (other, len(dict(net[1])[other]))], wire, worth)


# The post's wires go over to a new point within, which a spike ties to the post.
def with_spike(net, post, wire, worth):
    rows = [(point, [wire] if point == post else list(wires)) for point, wires in net[1]]
    inner = (name_not_taken(net), [wire] + dict(net[1])[post])
    return (list(net[0]), rows + [inner], sorted(net[2] + [(wire, worth)]))


def net_for(table):
    posts = [f"p{number}" for number in range(len(table))]
    net = (posts, [(post, []) for post in posts], [])
    for number, taken in enumerate(reversed(wires_taken(table))):
        ends = [posts[post] for post in taken[0]]
        if len(ends) == 2:
            net = with_edge(net, ends[0], ends[1], f"w{number}", taken[1])
        else:
            net = with_spike(net, ends[0], f"w{number}", taken[1])
    return net

"""Roads between lean nets with the same lines: stars and rings that lead from the one to the other one's shape."""

from rimread.errors import NotLean, Unlike
from rimread.leaning import name_not_taken
from rimread.lenses import is_lean, lines_by_wire
from rimread.shapes import meets_of, places_joined
from rimread.steps import step_done


# The inner side of a line is the one towards the places between its first and its last. Told is a list of the line
# that `number` meets there next behind `beside`; without a line where it goes on to the rim.
def met_next_inside(places, meets, number, beside):
    here = meets[number].index(beside)
    if places[beside][0] < places[number][0] < places[beside][1]:
        return meets[number][:here][-1:]
    return meets[number][here + 1:here + 2]


# Three lines round nothing, on the inner side of the first line that is left: it and two others that are left.
# Told is a list of none where no two lines that are left meet on that side.
def lines_to_turn(places, meets, left):
    along = [number for number in meets[left[0]] if number in left]
    for one, other in zip(along, along[1:]):
        # No third line could come in over the other one: it would have to go out over one of the three again.
        if met_next_inside(places, meets, one, left[0]) == [other]:
            return sorted([left[0], one, other])
    return []


def with_two_swapped(numbers, one, other):
    instead = {one: other, other: one}
    return [instead.get(number, number) for number in numbers]


# Three lines round nothing are turned: each of them meets the two others in the other order.
def meets_turned(meets, three):
    left = list(meets)
    for number in three:
        others = [other for other in three if other != number]
        left[number] = with_two_swapped(meets[number], others[0], others[1])
    return left


# Line by line, those with the fewest places between first: then no line that is left lies wholly on the inner side of
# the one whose turn it is. No two lines that are left meet there at last, so it may be cut off with that side, and all
# nets whose lines join the same places come to the same meets. Told are the turns, each as its three lines.
def turns_to_common_meets(places, meets):
    left = sorted(range(len(places)), key=lambda number: places[number][1] - places[number][0])
    turns = []
    while len(left) > 0:
        three = lines_to_turn(places, meets, left)
        if len(three) > 0:
            turns.append(three)
            meets = meets_turned(meets, three)
        else:
            left = left[1:]
    return turns


# The turns of the other one are gone back; what both have last would lead there and straight back.
def turns_between(one, other):
    places = places_joined(one)
    forth = turns_to_common_meets(places, meets_of(one))
    back = turns_to_common_meets(places, meets_of(other))
    while len(forth) > 0 and forth[-1:] == back[-1:]:
        forth = forth[:-1]
        back = back[:-1]
    return forth + list(reversed(back))


# Three lines round nothing lie round a point within or round a region.
def step_of_turn(net, wires):
    for point, wires_round in net[1]:
        if point not in net[0] and sorted(wires_round) == wires:
            return ("star", point)
    return ("ring", wires[0], wires[1], wires[2], name_not_taken(net))


def road_between(one, other):
    if not is_lean(one) or not is_lean(other):
        raise NotLean("a road leads between lean nets")
    if places_joined(one) != places_joined(other):
        raise Unlike("a road leads between nets whose lines join the same places")
    # Stars and rings keep which lines cross a wire.
    numbers = lines_by_wire(one)
    steps = []
    net = one
    for three in turns_between(one, other):
        wires = [wire for wire in sorted(numbers) if numbers[wire][0] in three and numbers[wire][1] in three]
        step = step_of_turn(net, wires)
        steps.append(step)
        net = step_done(net, step)
    return steps

"""Nets made lean by steps that keep the answer table."""

from rimread.arcs import to_be_turned
from rimread.lenses import is_lean
from rimread.nets import points_of
from rimread.steps import step_done, steps_for, wires_gone_over


def name_not_taken(net):
    points = points_of(net)
    number = 0
    while f"n{number}" in points:
        number = number + 1
    return f"n{number}"


# A star or a ring of a net that isn't lean and has none of the steps that take a wire away.
def turning_step(net):
    turned = to_be_turned(net)[0]
    if isinstance(turned, str):
        return ("star", turned)
    wires = wires_gone_over(net, turned)
    return ("ring", wires[0], wires[1], wires[2], name_not_taken(net))


def step_towards_lean(net):
    lessening = [step for step in steps_for(net) if step[0] != "star"]
    return lessening[0] if len(lessening) > 0 else turning_step(net)


def copied(net):
    return (list(net[0]), [(point, list(wires)) for point, wires in net[1]], list(net[2]))


def made_lean(net):
    steps = []
    left = copied(net)
    while not is_lean(left):
        step = step_towards_lean(left)
        steps.append(step)
        left = step_done(left, step)
    return (steps, left)

"""The answer table: what flows in at each post for the height 1 at each one."""

from rimread.fractions import NOUGHT, ONE
from rimread.heights import flows_for


def answer_table(net):
    return flows_for(net, [[ONE if post == other else NOUGHT for other in net[0]] for post in net[0]])

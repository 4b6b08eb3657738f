"""Tables judged: what is wrong with one, or a lean net with this answer table."""

from rimread.fractions import NOUGHT, plus
from rimread.rebuilding import net_for
from rimread.runs import runs_below_nought


def first_uneven(table):
    for i, row in enumerate(table):
        for j, entry in enumerate(row):
            if entry != table[j][i]:
                return (i, j)
    return None


def sum_of(entries):
    whole = NOUGHT
    for entry in entries:
        whole = plus(whole, entry)
    return whole


def judged(table):
    uneven = first_uneven(table)
    if uneven is not None:
        return ("uneven", uneven[0], uneven[1])
    wrong_sums = [i for i, row in enumerate(table) if sum_of(row) != NOUGHT]
    if len(wrong_sums) > 0:
        return ("sum", wrong_sums[0])
    runs = runs_below_nought(table)
    if runs is not None:
        return ("minor", runs[0], runs[1])
    return ("net", net_for(table))

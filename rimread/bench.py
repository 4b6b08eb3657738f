"""A bench keeps a net, does deeds on it, and answers for the net that stands."""

from rimread.answers import answer_table
from rimread.deeds import deed_done
from rimread.errors import NoWire
from rimread.heights import heights_of
from rimread.leaning import copied
from rimread.lenses import is_lean
from rimread.lines import lines_of
from rimread.nets import vet


class Bench:
    def __init__(self, net):
        vet(net)
        self.standing = copied(net)

    def net(self):
        return copied(self.standing)

    def do(self, deed):
        self.standing = deed_done(self.standing, deed)

    def table(self):
        return answer_table(self.standing)

    def lean(self):
        return is_lean(self.standing)

    def lines(self):
        return lines_of(self.standing)

    def heights(self, setting):
        return heights_of(self.standing, setting)

    def worth(self, wire):
        worths = dict(self.standing[2])
        if wire not in worths:
            raise NoWire("the net has no wire of this name")
        return worths[wire]

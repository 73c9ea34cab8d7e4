"""What is known of a condition behind the front door: its net, its heads, and how its greatest values grow."""

from safeupto.growths import first_above, joined, raised
from safeupto.hops import Hops
from safeupto.nets import MOST_HEADS, heads_of, net_for
from safeupto.tails import SOON, Tails


class Reckoning:
    """The greatest sums of the walks of a net; the weights may be others than those of the net."""

    def __init__(self, net, heads, moves):
        self.net = net
        self.heads = heads
        self.hops = Hops(net.many, moves, heads, net.exits)
        self._tails = None
        entries = net.entries
        self._begins = [(at, entries[head]) for at, head in enumerate(heads) if head in entries]
        self._growths = {}

    def begins(self):
        """The list of the tuples (place among the heads, start) of the beginning nodes, which is not to be changed."""
        return self._begins

    def tails(self):
        """The greatest sums from heads to end nodes, which are made once."""
        if self._tails is None:
            self._tails = Tails(self.hops.all_hops(), self.hops.last_sums(), len(self.heads))
        return self._tails

    def growth(self, at):
        """How the greatest sums of walks from a head grow, which is found once and not to be changed."""
        if at not in self._growths:
            self._growths[at] = self.tails().growth(at, self.hops.least_endless(at))
        return self._growths[at]

    def whole(self):
        """How the greatest values grow."""
        whole = None
        for at, start in self._begins:
            growth = raised(self.growth(at), start)
            whole = growth if whole is None else joined(whole, growth)
        return whole

    def break_above(self, most):
        """The first count for which the greatest value is greater than most, and the head it is from, or None."""
        begins, hops, vectors = self._begins, self.hops, self.tails().upto(SOON - 1)
        # Where it is at once, it is not asked how the values grow.
        for count in range(SOON):
            vector = vectors[count]
            for at, start in begins:
                # Where there is no walk, the sum is less than anything.
                if start + vector[at] > most or hops.far is not None and hops.least_endless(at) == count:
                    return (count, at)
        found = None
        for at, start in begins:
            count = first_above(self.growth(at), most - start)
            if count is not None and (found is None or count < found[0]):
                found = (count, at)
        return found

    def value_for(self, count):
        """The greatest value for a count: an integer, None or "endless"."""
        values = []
        for at, start in self._begins:
            endless = self.hops.least_endless(at)
            if endless is not None and endless <= count:
                return "endless"
            value = self.tails().greatest(at, count)
            if value is not None:
                values.append(start + value)
        return max(values, default=None)


def reckoning_of(net, most):
    """What is known of a net; raises TooMany with most if it has more heads."""
    heads = heads_of(net, most)
    if "reckoning" not in net.known:
        net.known["reckoning"] = Reckoning(net, heads, net.moves)
    return net.known["reckoning"]


def reckoning_for(program, condition, size):
    """What is known of a condition with at most 24 heads; raises the errors of what it is asked for with."""
    return reckoning_of(net_for(program, condition, size), MOST_HEADS)

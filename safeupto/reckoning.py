"""What is known of a condition behind the front door: its net, its heads, and how its greatest values grow."""

from safeupto.growths import first_above, joined, raised, value_at
from safeupto.hops import Hops
from safeupto.nets import MOST_HEADS, heads_of, net_for
from safeupto.tails import Tails


class Reckoning:
    """The greatest sums of the walks of a net; the weights may be others than those of the net."""

    def __init__(self, net, heads, moves):
        self.net = net
        self.heads = heads
        self.hops = Hops(len(net.spots), moves, heads, net.exits)
        self.tails = Tails(self.hops.rows, self.hops.lasts, len(heads))

    def begins(self):
        """The list of the tuples (place among the heads, start) of the beginning nodes."""
        entries = self.net.entries
        return [(at, entries[head]) for at, head in enumerate(self.heads) if head in entries]

    def growth(self, at):
        """How the greatest sums of walks from a head grow."""
        return self.tails.growth(at, self.hops.least_endless(at))

    def whole(self, factor):
        """How the greatest values grow, with starts multiplied by a factor."""
        whole = ([], [], None)
        for at, start in self.begins():
            whole = joined(whole, raised(self.growth(at), start * factor))
        return whole

    def break_above(self, most):
        """The first count for which the greatest value is greater than most, and the head it is from, or None."""
        # Where it is soon, no rings need to be looked for.
        for count in range(2 * len(self.heads)):
            for at, start in self.begins():
                value = self.tails.sum_for(at, count)
                if self.hops.least_endless(at) == count or (value is not None and start + value > most):
                    return (count, at)
        found = None
        for at, start in self.begins():
            count = first_above(self.growth(at), most - start)
            if count is not None and (found is None or count < found[0]):
                found = (count, at)
        return found

    def early_value(self, count):
        """The greatest value for a small count if none is endless: an integer or None."""
        values = [(start, self.tails.sum_for(at, count)) for at, start in self.begins()]
        return max([start + value for start, value in values if value is not None], default=None)

    def value_for(self, count):
        """The greatest value for a count: an integer, None or "endless"."""
        values = [value_at(raised(self.growth(at), start), count) for at, start in self.begins()]
        if "endless" in values:
            return "endless"
        return max([value for value in values if value is not None], default=None)


def reckoning_for(program, condition, size):
    """What is known of a condition with at most 24 heads; raises the errors of what it is asked for with."""
    net = net_for(program, condition, size)
    return Reckoning(net, heads_of(net, MOST_HEADS), net.moves)

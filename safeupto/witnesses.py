"""Short runs that break conditions."""

from safeupto.rings import totals, turned
from safeupto.shortruns import Rules
from safeupto.tails import SOON
from safeupto.vectors import is_there


def breaking_rules(reckoning, most):
    """The rules of a short run with the least count behind which the value is greater than most; None if none is."""
    found = reckoning.break_above(most)
    if found is None:
        return None
    count, at = found
    net, head = reckoning.net, reckoning.heads[at]
    rules = Rules(net)
    if reckoning.hops.least_endless(at) == count:
        around_gaining(reckoning.hops, rules, at, most - net.entries[head])
    else:
        Trail(reckoning, rules).lay(at, count, most - net.entries[head])
    if len(rules.rules) == 0:
        return [("walk", net.node(head), ())]
    return rules.rules


def around_gaining(hops, rules, at, most):
    """Makes the rules of a walk through a ring that gains and counts nothing, with a sum greater than most."""
    ahead, node = hops.to_ring(at)
    behind, last = hops.from_ring(node)
    ring = turned(hops.moves, hops.rings[node], node)
    gain, _ = totals(hops.moves, ring)
    rest = most - totals(hops.moves, [*ahead, *behind])[0]
    found = rules.walk(ahead)
    if rest >= 0:
        found = rules.joined(found, rules.repeated(rules.walk(ring), rest // gain + 1))
    rules.joined(found, rules.ending(behind, last))


class Trail:
    """Makes the rules of walks from head to head."""

    def __init__(self, reckoning, rules):
        self._hops = reckoning.hops
        self._tails = reckoning.tails()
        self._rules = rules
        self._known = {}

    def lay(self, at, count, most):
        """Makes the rules of a walk from a head with at most such a count and a sum greater than most."""
        tails = self._tails
        pattern = tails.pattern() if count >= SOON else None
        if pattern is not None:
            heads, ring, times = pattern.route(at, count)
            self._go([at, *heads], ring, times)
        elif count < SOON or count < tails.length():
            self._go([at, *tails.trail(at, count)], [], 0)
        else:
            self._go_staged(at, count, most)

    def _go_staged(self, at, count, most):
        """The same for a count for which the stages tell the greatest sums."""
        for stage in self._tails.stages:
            period = len(stage.ring)
            for short in range(count % period, len(stage.touching), period):
                worth, times = stage.touching[short][at], (count - short) // period
                if is_there(worth) and worth + stage.gain * times > most:
                    self._go([at, *stage.trail(at, short)], stage.ring, times)
                    return

    def _go(self, heads, ring, times):
        """Makes the rules of a walk through these heads, with the ring so many times where it is first touched."""
        found = None
        for place, at in enumerate(heads):
            if place > 0:
                found = self._rules.joined(found, self._hop(heads[place - 1], at))
            if at in ring and times > 0:
                turn = ring.index(at)
                around = self._around([*ring[turn:], *ring[:turn], at])
                found = self._rules.joined(found, self._rules.repeated(around, times))
                times = 0
        walk, last = self._hops.finish(heads[-1])
        self._rules.joined(found, self._rules.ending(walk, last))

    def _around(self, heads):
        found = None
        for first, second in zip(heads, heads[1:]):
            found = self._rules.joined(found, self._hop(first, second))
        return found

    def _hop(self, first, second):
        """The index of the rule for a hop; None if nothing is gained by it."""
        if (first, second) not in self._known:
            is_idle = first == second and (second, 0) in self._hops.all_hops()[first]
            walk = [] if is_idle else self._hops.hop(first, second)
            self._known[(first, second)] = self._rules.walk(walk)
        return self._known[(first, second)]

"""Greatest values at the nodes of a net where guards are chosen: behind some moves a value is at most a cap.

What a walk makes of a value is the least of value + sum and a bound. So a ring that gains goes up to the least bound
along it: the value behind the capped move that gives this bound becomes its cap, and no more. Or it goes up for ever.
"""

from safeupto.nets import leads_of
from safeupto.rings import rings_among
from safeupto.shortruns import Rules

# Greater than each sum of a walk, and less.
ENDLESS = 1 << 1000
NOWHERE = -ENDLESS


def lowered_moves(net):
    """The list of the tuples (index, guard, bound) of the moves along edges of guards, for what these lower."""
    ground = net.ground
    guards = {edge: action for edge, (_, _, action) in enumerate(ground.chart.edges)
              if action is not None and action[0] == "guard"}
    found = []
    for index, (source, edge, _, _, _) in enumerate(net.moves):
        if edge in guards:
            _, name, variable, bound, _ = guards[edge]
            if variable == ground.twos[net.stands[source][1]][0]:
                found.append((index, name, bound))
    return found


def caps_on(net, names):
    """The dict from the indices of moves along edges of these guards, for what they lower, to their bounds."""
    if "lowered" not in net.known:
        net.known["lowered"] = lowered_moves(net)
    return {index: bound for index, name, bound in net.known["lowered"] if name in names}


def ceilings_of(net, names):
    """The greatest values at the nodes of a net with these guards; those that were found last are remembered."""
    caps = caps_on(net, names)
    found = net.known.get("ceilings")
    if found is None or found.caps != caps:
        found = Ceilings(net, caps)
        net.known["ceilings"] = found
    return found


class Ceilings:
    """The greatest values at the nodes of a net without minus, behind whose moves values are capped by caps.

    A value is told by a story, a tuple (index of the story ahead or None, index of the move or None, value at its end,
    the ring that is gone around as often as it gains, or None).
    """

    def __init__(self, net, caps):
        self.caps = caps
        self._moves = net.moves
        self._exits = net.exits
        self._leads = leads_of(net)
        self.worths = [NOWHERE] * net.many
        self._stories = []
        self._told = [None] * net.many
        self._risen = [None] * net.many
        # Only what rose since it was gone through is gone through again.
        self._fresh = [False] * net.many
        for at in net.entries:
            self._tell(at, net.entries[at], None)
        raised = self._raise_once()
        while len(raised) > 0:
            for ring in rings_among(self._risen, raised):
                self._go_around(ring)
            raised = self._raise_once()

    def _tell(self, at, worth, ring):
        """Tells that a value is at a node from the beginning, or by going around a ring."""
        self._stories.append((self._told[at], None, worth, ring))
        self._told[at] = len(self._stories) - 1
        self.worths[at] = worth
        self._fresh[at] = True

    def _raise_once(self):
        """Raises the values along each move once, in order; returns the list of the nodes that moves back raised."""
        raised, worths, risen, fresh, caps = [], self.worths, self._risen, self._fresh, self.caps
        stories, told, many = self._stories, self._told, len(self._stories)
        for source, leads in enumerate(self._leads):
            if fresh[source]:
                fresh[source] = False
                worth = worths[source]
                for target, weight, index in leads:
                    value = worth if worth == ENDLESS else worth + weight
                    if index in caps and caps[index] < value:
                        value = caps[index]
                    if worths[target] < value:
                        stories.append((told[source], index, value, None))
                        worths[target], told[target], risen[target], fresh[target] = value, many, (source, index), True
                        many = many + 1
                        if target <= source:
                            raised.append(target)
        return raised

    def _go_around(self, ring):
        """Raises what a ring gains at once, behind the move of it that caps the most, or for ever."""
        moves, caps, bound, turn = self._moves, self.caps, ENDLESS, 0
        for place, index in enumerate(ring):
            bound = bound if bound == ENDLESS else bound + moves[index][3]
            if index in caps and caps[index] <= bound:
                bound, turn = caps[index], place + 1
        ring = [*ring[turn:], *ring[:turn]]
        node = moves[ring[0]][0]
        # The last move of the ring now is the one that caps.
        worth = caps.get(ring[-1], ENDLESS)
        if self.worths[node] < worth:
            self._tell(node, worth, ring)
        self._risen[node] = None

    def greatest(self):
        """The greatest value at the end nodes: an integer or ENDLESS."""
        return max([self.worths[at] for at in self._exits])

    def _stories_to_greatest(self):
        """The list of the stories that tell the value at the first end node with the greatest value, and this node."""
        exits = self._exits
        last = exits[[self.worths[at] for at in exits].index(self.greatest())]
        found, place = [], self._told[last]
        while place is not None:
            found.append(self._stories[place])
            place = self._stories[place][0]
        return found[::-1], last

    def moves_to_greatest(self):
        """The list of the indices of the moves on a walk to an end node with the greatest value, and perhaps others."""
        found = []
        for _, index, _, ring in self._stories_to_greatest()[0]:
            if ring is not None:
                found.extend(ring)
            elif index is not None:
                found.append(index)
        return found

    def breaking_rules(self, net, most):
        """The rules of a short run of this net behind which the value is greater than most, as it can be."""
        moves, caps, rules = self._moves, self.caps, Rules(net)
        stories, last = self._stories_to_greatest()
        found, walk, value = None, [], stories[0][2]
        for place, (_, index, worth, ring) in enumerate(stories):
            if ring is not None:
                gain = sum([moves[one][3] for one in ring])
                needed = worth if worth != ENDLESS else self._needed(stories[place + 1:], most)
                times = (needed - value + gain - 1) // gain
                if times > 0:
                    found = rules.joined(found, rules.walk(walk))
                    found = rules.joined(found, rules.repeated(rules.walk(ring), times))
                    value, walk = min(value + gain * times, worth), []
            elif index is not None:
                walk.append(index)
                value = min(value + moves[index][3], caps.get(index, ENDLESS))
        rules.joined(found, rules.ending(walk, last))
        return rules.rules if len(rules.rules) > 0 else [("walk", net.node(last), ())]

    def _needed(self, stories, most):
        """How great a value must be ahead of these stories to be capped by the first cap, or too great at the end."""
        total = 0
        for _, index, worth, ring in stories:
            for one in ring if ring is not None else [index]:
                total = total + self._moves[one][3]
            if worth != ENDLESS:
                return worth - total
        return most + 1 - total

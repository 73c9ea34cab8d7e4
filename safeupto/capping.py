"""Greatest values at the nodes of a net where guards are chosen: behind some moves a value is at most a cap.

What a walk makes of a value is the least of value + sum and a bound. So a ring that gains goes up to the least bound
along it: the value behind the capped move that gives this bound becomes its cap, and no more. Or it goes up for ever.
"""

from safeupto.rings import rings_among
from safeupto.shortruns import Rules

# Greater than each sum of a walk, and less.
ENDLESS = 1 << 1000
NOWHERE = -ENDLESS


def caps_on(net, names):
    """The dict from the indices of moves along edges of these guards, for what they lower, to their bounds."""
    found = {}
    for index, (source, edge, _, _, _) in enumerate(net.moves):
        action = net.ground.chart.edges[edge][2]
        if action is not None and action[0] == "guard" and action[1] in names and action[2] == net.node(source)[1]:
            found[index] = action[3]
    return found


class Ceilings:
    """The greatest values at the nodes of a net without minus, behind whose moves values are capped by caps.

    A value is told by a story, a tuple (index of the story ahead or None, walk, value at its end, whether the walk is
    a ring that is gone around as often as it gains).
    """

    def __init__(self, net, caps):
        self._net = net
        self._caps = caps
        self._outs = [[] for _ in range(net.many)]
        for index, (source, _, target, weight, _) in enumerate(net.moves):
            self._outs[source].append((target, weight, caps.get(index, ENDLESS), index))
        self.worths = [NOWHERE] * net.many
        self._stories = []
        self._told = [None] * net.many
        self._risen = [None] * net.many
        for at in net.entries:
            self._tell(at, None, [], net.entries[at], False)
        raised = self._raise_once()
        while len(raised) > 0:
            for ring in rings_among(self._risen, raised):
                self._go_around(ring)
            raised = self._raise_once()

    def _tell(self, at, ahead, walk, worth, again):
        self.worths[at] = worth
        self._told[at] = len(self._stories)
        self._stories.append((ahead, walk, worth, again))

    def _raise_once(self):
        """Raises the values along each move once, in order; returns the list of the nodes that moves back raised."""
        raised, worths, risen = [], self.worths, self._risen
        for source, leads in enumerate(self._outs):
            worth = worths[source]
            if worth != NOWHERE:
                for target, weight, cap, index in leads:
                    value = cap if worth == ENDLESS else min(worth + weight, cap)
                    if worths[target] < value:
                        self._tell(target, self._told[source], [index], value, False)
                        risen[target] = (source, index)
                        if target <= source:
                            raised.append(target)
        return raised

    def _go_around(self, ring):
        """Raises what a ring gains at once, behind the move of it that caps the most, or for ever."""
        bound, turn = ENDLESS, 0
        for place, index in enumerate(ring):
            bound = bound if bound == ENDLESS else bound + self._net.moves[index][3]
            if index in self._caps and self._caps[index] <= bound:
                bound, turn = self._caps[index], place + 1
        ring = [*ring[turn:], *ring[:turn]]
        node = self._net.moves[ring[0]][0]
        # The last move of the ring now is the one that caps.
        worth = self._caps.get(ring[-1], ENDLESS)
        if self.worths[node] < worth:
            self._tell(node, self._told[node], ring, worth, True)
        self._risen[node] = None

    def greatest(self):
        """The greatest value at the end nodes: an integer or ENDLESS."""
        return self.worths[self._greatest_end()]

    def _greatest_end(self):
        """The first end node with the greatest value."""
        return max(self._net.exits, key=lambda at: self.worths[at])

    def moves_to_greatest(self):
        """The list of the indices of the moves on a walk to an end node with the greatest value, and perhaps others."""
        return [index for _, steps, _, _ in self._stories_to(self._greatest_end()) for index in steps]

    def breaking_rules(self, most):
        """The rules of a short run to an end node behind which the value is greater than most, as it can be."""
        last = self._greatest_end()
        stories = self._stories_to(last)
        rules, found, walk = Rules(self._net), None, []
        value = stories[0][2]
        for place, (_, steps, worth, again) in enumerate(stories):
            if again:
                gain = sum([self._net.moves[index][3] for index in steps])
                needed = worth if worth != ENDLESS else self._needed(stories[place + 1:], most)
                times = (needed - value + gain - 1) // gain
                if times > 0:
                    found = rules.joined(found, rules.walk(walk))
                    found = rules.joined(found, rules.repeated(rules.walk(steps), times))
                    value, walk = min(value + gain * times, worth), []
            else:
                walk = walk + steps
                for index in steps:
                    value = min(value + self._net.moves[index][3], self._caps.get(index, ENDLESS))
        rules.joined(found, rules.ending(walk, last))
        return rules.rules if len(rules.rules) > 0 else [("walk", self._net.node(last), ())]

    def _stories_to(self, at):
        """The list of the stories that tell the value at a node, the first one ahead."""
        found, place = [], self._told[at]
        while place is not None:
            found.append(self._stories[place])
            place = self._stories[place][0]
        return found[::-1]

    def _needed(self, stories, most):
        """How great a value must be ahead of these stories to be capped by the first cap, or too great at the end."""
        total = 0
        for _, steps, worth, _ in stories:
            for index in steps:
                total = total + self._net.moves[index][3]
            if worth != ENDLESS:
                return worth - total
        return most + 1 - total

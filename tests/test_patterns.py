"""Sums that rise in a pattern, against sums found hop by hop."""

import random
import unittest

from safeupto.growths import value_at
from safeupto.patterns import pattern_of
from safeupto.tails import Tails
from safeupto.vectors import is_there
from tests.helpers import Case

FAR = 10 ** 30


def made_up(chance):
    """Rows of hops with a sum of nothing to each head itself, and last sums, None where there is none."""
    many = chance.randint(1, 7)
    weights = chance.choice([[0, 1, -1, 2], [5, -3, 0, 7, -50], [1], [0, -1], [10 ** 30, 1, -10 ** 30], [3, 100, -100]])
    rows = []
    for at in range(many):
        row = {at: 0}
        for _ in range(chance.choice([0, 1, 1, 2, 3])):
            row[chance.randrange(many)] = chance.choice(weights)
        row[at] = max(row[at], 0)
        rows.append(list(row.items()))
    lasts = [chance.choice([None, 0, 0, 3, -7, 10 ** 20]) for _ in range(many)]
    if chance.random() < 0.1:
        rows[0], lasts[0] = [], None
    return rows, lasts


def greater(one, other):
    if one is None or other is None:
        return other if one is None else one
    return max(one, other)


def times(rows, vector):
    """The sums with one hop more."""
    found = []
    for row in rows:
        best = None
        for target, weight in row:
            best = greater(best, None if vector[target] is None else weight + vector[target])
        found.append(best)
    return found


def squared(rows):
    found = []
    for row in rows:
        best = {}
        for middle, weight in row:
            for target, more in rows[middle]:
                best[target] = max(best.get(target, weight + more), weight + more)
        found.append(list(best.items()))
    return found


def power(rows, lasts, count):
    """The sums with so many hops."""
    vector = lasts
    while count:
        if count & 1:
            vector = times(rows, vector)
        rows, count = squared(rows), count >> 1
    return vector


def sum_along(rows, lasts, heads):
    """The sum of a walk through these heads to the end, None if there is none."""
    total = lasts[heads[-1]]
    for one, other in zip(heads, heads[1:]):
        total += dict(rows[one])[other]
    return total


class Patterns(Case):

    def test_against_hop_by_hop(self):
        periods = {}
        for seed in range(1500):
            rows, lasts = made_up(random.Random(seed))
            tails = Tails(rows, lasts, len(rows))
            pattern = tails.pattern()
            period = pattern and pattern.period
            periods[period] = periods.get(period, 0) + 1
            vector = lasts
            for count in range(40):
                self.assertEqual([tails.greatest(at, count) for at in range(len(rows))], vector, (seed, count))
                vector = times(rows, vector)
            for count in [10 ** 6 + 1, 10 ** 30]:
                self.assertEqual([tails.greatest(at, count) for at in range(len(rows))], power(rows, lasts, count), seed)
        self.assertGreater(min(periods.values()), 1)
        self.assertLessEqual({1, 2, 3, None}, set(periods))

    def test_stages_tell_the_same(self):
        for seed in range(400):
            rows, lasts = made_up(random.Random(seed))
            tails, other = Tails(rows, lasts, len(rows)), Tails(rows, lasts, len(rows))
            for at in range(len(rows)):
                growth, staged = tails.growth(at, None), other.staged_growth(at)
                for count in [0, 1, 2, 3, 7, 30, 10 ** 9 + 7]:
                    self.assertEqual(value_at(growth, count), value_at(staged, count), (seed, at, count))

    def test_routes(self):
        gone = 0
        for seed in range(600):
            rows, lasts = made_up(random.Random(seed))
            tails = Tails(rows, lasts, len(rows))
            pattern = tails.pattern()
            if pattern is None:
                continue
            for count in [pattern.first, pattern.first + 1, pattern.first + 9, 57, 10 ** 12 + 5]:
                for at in range(len(rows)):
                    if count < pattern.first or pattern.sum_for(at, count) is None:
                        continue
                    heads, ring, often = pattern.route(at, count)
                    self.assertEqual(len(heads) + len(ring) * often, count)
                    total = sum_along(rows, lasts, [at, *heads])
                    if often > 0:
                        self.assertIn(ring[0], [at, *heads])
                        total += often * (sum_along(rows, [0] * len(rows), [*ring, ring[0]]))
                        gone += 1
                    self.assertEqual(total, pattern.sum_for(at, count))
        self.assertGreater(gone, 500)

    def test_a_rise_once_is_not_enough(self):
        # The second head rises once, and what the first one has from it rises later.
        rows = [[(0, 0), (1, 5)], [(1, 0), (2, 57)], [(2, 0)]]
        tails = Tails(rows, [0, None, 9], 3)
        self.assertEqual([tails.greatest(0, count) for count in (0, 1, 2, 3, 4, 10 ** 9)], [0, 0, 71, 71, 71, 71])
        self.assertEqual([tails.greatest(1, count) for count in (0, 1, 2, 10 ** 9)], [None, 66, 66, 66])

    def test_late_rings(self):
        # No pattern begins soon: a ring is better only after very many hops.
        rows = [[(0, 1), (1, -FAR)], [(1, 3)]]
        tails = Tails(rows, [0, 0], 2)
        self.assertIsNone(tails.pattern())
        self.assertEqual(tails.greatest(0, FAR // 2), FAR // 2)
        self.assertEqual(tails.greatest(0, 10 * FAR), 3 * (10 * FAR - 1) - FAR)
        self.assertIsNone(pattern_of([[0, 0]], rows, 40))

    def test_holes(self):
        tails = Tails([[(0, 0), (1, 4)], [(1, 2)], []], [None, None, None], 3)
        self.assertEqual([tails.greatest(at, 10 ** 9) for at in range(3)], [None] * 3)
        self.assertFalse(is_there(tails.vectors[0][0]))


if __name__ == "__main__":
    unittest.main()

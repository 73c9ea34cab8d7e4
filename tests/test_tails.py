"""Greatest sums from heads to end nodes for all counts, against sums that are found by doubling."""

import random
import unittest

from safeupto.growths import first_above, value_at
from safeupto.tails import Tails
from tests.helpers import Case

FAR = 10 ** 30


def greatest(first, second):
    """The greatest sums, where None is less than all."""
    return max([one + other for one, other in zip(first, second) if one is not None and other is not None], default=None)


def ahead(matrix, vector):
    return [greatest(row, vector) for row in matrix]


def doubled(matrix):
    columns = list(zip(*matrix))
    return [[greatest(row, column) for column in columns] for row in matrix]


def by_doubling(matrix, vector, count):
    while count > 0:
        if count % 2 == 1:
            vector = ahead(matrix, vector)
        matrix, count = doubled(matrix), count // 2
    return vector


class Hops:
    """Hops between heads, made up, with several layers."""

    def __init__(self, seed):
        chance = random.Random(seed)
        self.width, self.layers = chance.choice([1, 2, 3, 4, 5, 7]), chance.choice([1, 1, 1, 2, 3])
        self.often, self.great = chance.choice([0.2, 0.4, 0.8]), chance.choice([3, 10, 100, 10 ** 6, FAR])
        self.chance = chance
        within = [[[self.weight() for _ in range(self.width)] for _ in range(self.width)] for _ in range(self.layers)]
        if chance.random() < 0.4:
            # One ring through all heads.
            for head in range(self.width):
                within[0][head][(head + 1) % self.width] = chance.randint(-self.great, self.great)
        many = self.width * self.layers
        self.matrix = [[None] * many for _ in range(many)]
        for layer in range(self.layers):
            for down in range(layer + 1):
                for head in range(self.width):
                    for other in range(self.width):
                        at = (layer - down) * self.width + other
                        self.matrix[layer * self.width + head][at] = within[down][head][other]
        for at in range(many):
            self.matrix[at][at] = max(0, self.matrix[at][at] or 0)
        self.lasts = [chance.randint(-self.great, self.great) if chance.random() < 0.4 else None for _ in range(many)]

    def weight(self):
        if self.chance.random() > self.often:
            return None
        return self.chance.randint(-self.great, self.great if self.chance.random() < 0.3 else 2)

    def rows(self):
        return [[(at, weight) for at, weight in enumerate(row) if weight is not None] for row in self.matrix]


class Growing(Case):

    def test_all_counts(self):
        for seed in range(80):
            hops = Hops(seed)
            tails = Tails(hops.rows(), hops.lasts, hops.width)
            growths = [tails.growth(at, None) for at in range(len(hops.lasts))]
            edge = tails.length()
            counts = [0, 1, 2, 3, edge - 1, edge, edge + 1, 3 * edge + 1, 10 ** 9 + seed, FAR - seed]
            for count in counts:
                found = [value_at(growth, count) for growth in growths]
                self.assertEqual(found, by_doubling(hops.matrix, hops.lasts, count), (seed, count))
            for growth in growths:
                for most in [-5, 0, 7, 10 ** 9, 2 * FAR]:
                    count = first_above(growth, most)
                    if count is None:
                        self.assertFalse((value_at(growth, 10 ** 40) or most) > most)
                    else:
                        self.assertGreater(value_at(growth, count), most)
                        if count > 0:
                            before = value_at(growth, count - 1)
                            self.assertTrue(before is None or before <= most)

    def test_trails(self):
        for seed in range(40):
            hops = Hops(seed)
            if hops.layers > 1:
                continue
            tails = Tails(hops.rows(), hops.lasts, hops.width)
            tails.settle()
            for at in range(hops.width):
                for count in range(0, len(tails.vectors), 3):
                    self.followed(hops, tails.sum_for(at, count), [at, *tails.trail(at, count)], count)
                for stage in tails.stages:
                    for count in range(0, len(stage.touching), 3):
                        worth = stage.touching[count][at]
                        if worth > -10 ** 60:
                            trail = [at, *stage.trail(at, count)]
                            self.followed(hops, worth, trail, count)
                            self.assertTrue(set(trail) & set(stage.ring))

    def followed(self, hops, worth, trail, count):
        """Looks whether a trail has so many hops and this sum."""
        if worth is not None:
            total = sum(hops.matrix[first][second] for first, second in zip(trail, trail[1:]))
            self.assertEqual((len(trail) - 1, total + hops.lasts[trail[-1]]), (count, worth))


if __name__ == "__main__":
    unittest.main()

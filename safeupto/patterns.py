"""Patterns in which the greatest sums of walks rise with the number of hops.

Say that from some number of hops on, for one number more than a period has, the sums with a period more are greater by
gains, one for each head, and that no hop leads to a head with a greater gain. Then it is so for ever. For what is
greatest with a period more is the sum of a hop and of what is greatest behind it. This is at most so much greater; and
the hop that is best now leads to a head with the same gain, since otherwise it would have been better a period ago. If
all gains are the same, once is enough.
"""

from safeupto.vectors import LEAST, extend, is_there, next_head

# Rings with more hops are rare, and other ways are found for them.
PERIODS = (1, 2, 3)


class Pattern:
    """The sums from a first number of hops on: with a period more they are greater by gains."""

    def __init__(self, first, period, gains, vectors, rows):
        self.first = first
        self.period = period
        self.gains = gains
        self._vectors = vectors
        self._rows = rows

    def place(self, count):
        """The number of hops from the first one on, less than a period behind it, that stands for this one."""
        return self.first + (count - self.first) % self.period

    def sum_for(self, at, count):
        """The greatest sum from a head for a count from the first one on; None if there is no walk."""
        place = self.place(count)
        worth = self._vectors[place][at]
        return worth + self.gains[at] * ((count - place) // self.period) if is_there(worth) else None

    def stairs_from(self, at):
        """The stairs (offset, period, value, gain) of the walks from a head."""
        found, gain = [], self.gains[at]
        for place in range(self.first, self.first + self.period):
            worth = self._vectors[place][at]
            if is_there(worth):
                found.append((place % self.period, self.period, worth - gain * (place // self.period), gain))
        return found

    def route(self, at, count):
        """The heads behind this one on a greatest walk, a ring of heads, and how often to go around it, too."""
        regular = self.first + self.period + 1
        extend(self._vectors, self._rows, regular + self.period)
        heads, met, left = [at], {}, count
        while left >= regular and (at, left % self.period) not in met:
            met[(at, left % self.period)] = left
            # What is best here is best with any number of periods more.
            at = self._step(at, regular + (left - regular) % self.period)
            left = left - 1
            heads.append(at)
        ring, times = [], 0
        if left >= regular:
            many = met[(at, left % self.period)] - left
            times = (left - self.first) // many
            ring, left = heads[len(heads) - 1 - many:-1], left - many * times
        while left > 0:
            at = self._step(at, left if left < regular else regular + (left - regular) % self.period)
            left = left - 1
            heads.append(at)
        return heads[1:], ring, times

    def _step(self, at, left):
        """The first head to which a hop of a greatest walk with so many hops, which are few, leads."""
        return next_head(self._rows[at], self._vectors[left][at], self._vectors[left - 1])


def pattern_of(vectors, rows, most):
    """The pattern in which the vectors, with at most so many hops, begin to rise, or None."""
    runs = {period: 0 for period in PERIODS}
    rises = {period: None for period in PERIODS}
    for last in range(1, most + 1):
        extend(vectors, rows, last + 1)
        for period in PERIODS:
            # What is rare is looked for later.
            if 2 * period > last + 1:
                break
            gains = gains_between(vectors[last - period], vectors[last])
            runs[period] = runs[period] + 1 if gains is not None and gains == rises[period] else 1
            rises[period] = gains
            if gains is not None and are_kept(gains, rows, runs[period] > period):
                return Pattern(last - period - runs[period] + 1, period, gains, vectors, rows)
    return None


def gains_between(earlier, later):
    """The list of what the later sums are greater by; None if there are walks from more heads."""
    gains = [after - before for before, after in zip(earlier, later)]
    least = min(earlier)
    if least + least > LEAST:
        return gains
    if [is_there(before) for before in earlier] != [is_there(after) for after in later]:
        return None
    return [gain if is_there(before) else 0 for before, gain in zip(earlier, gains)]


def are_kept(gains, rows, often):
    """Whether gains that there were for so often that it is enough, or once, stay for ever."""
    if min(gains) == max(gains):
        return True
    return often and not any([gains[target] > gain for gain, row in zip(gains, rows) for target, _ in row])

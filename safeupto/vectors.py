"""Greatest sums of walks from heads to end nodes for each number of hops, as lists with one sum for each head."""

# Less than each sum of a walk, also if anything that a walk can have is added to it.
LEAST = -(1 << 1000)


def is_there(worth):
    """Whether a worth is that of a walk."""
    return worth + worth > LEAST


def step_back(rows, vector):
    """The greatest sums with one hop more."""
    return [max([weight + vector[target] for target, weight in row]) if row else LEAST for row in rows]


def extend(vectors, rows, many):
    """Makes the list of vectors, one for each number of hops, as long as this."""
    while len(vectors) < many:
        vectors.append(step_back(rows, vectors[-1]))


def next_head(row, worth, vector):
    """The first head to which a hop leads such that the sum there is what is left of this worth."""
    for target, weight in row:
        if weight + vector[target] == worth:
            return target
    return None


def trail_in(rows, vectors, at, count):
    """The list of the heads behind this one on a greatest walk with so many hops, for which there are vectors."""
    found = []
    for left in range(count, 0, -1):
        at = next_head(rows[at], vectors[left][at], vectors[left - 1])
        found.append(at)
    return found

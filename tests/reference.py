"""Greatest values and limits found in the plainest way, from all nodes and steps, count by count."""

from safeupto.terms import Terms

ENDLESS = "endless"


def better(one, other):
    """Whether one value is greater than another one, where None is less than all and "endless" greater."""
    if one is None or other == ENDLESS:
        return False
    return other is None or one == ENDLESS or one > other


def settled(worths, steps):
    """The greatest worths of the keys, to which tuples (key, key, weight) lead; "endless" where there is none."""
    worths = dict(worths)

    def rise(mark):
        changed = False
        for source, target, weight in steps:
            worth = worths.get(source)
            if worth is not None:
                worth = worth if worth == ENDLESS else worth + weight
                if better(worth, worths.get(target)):
                    worths[target] = ENDLESS if mark else worth
                    changed = True
        return changed

    keys = {key for step in steps for key in step[:2]} | set(worths)
    for _ in range(len(keys) + 1):
        if not rise(False):
            return worths
    while rise(True):
        pass
    return worths


def counted_twice(program, condition, first, second):
    """The nodes, beginnings, ends and the steps (node, node, weight, 0 or 1 by first, 0 or 1 by second)."""
    one, other = Terms(program, condition, first), Terms(program, condition, second)
    steps = [(row[0], row[2], row[3], row[4], same[4]) for row, same in zip(one.steps(), other.steps())]
    return one.begins(), one.ends(), steps


def values_for_two(program, condition, first, second, most, others):
    """The dict from (n, m) to the greatest value with at most n edges counted by first, and m by second."""
    begins, ends, steps = counted_twice(program, condition, first, second)
    moves = [((source, n, m), (target, n + one, m + other), weight) for source, target, weight, one, other in steps
             for n in range(most + 1 - one) for m in range(others + 1 - other)]
    worths = settled({(node, 0, 0): begins[node] for node in begins}, moves)
    found = {}
    for n in range(most + 1):
        for m in range(others + 1):
            best = None
            for key in [(n - 1, m), (n, m - 1)]:
                best = found[key] if better(found.get(key), best) else best
            for node in ends:
                best = worths.get((node, n, m)) if better(worths.get((node, n, m)), best) else best
            found[(n, m)] = best
    return found


def values(program, condition, size, most):
    """The list of the greatest values for the counts from 0 to most."""
    begins, ends, steps = counted_twice(program, condition, size, size)
    moves = [((source, n), (target, n + one), weight) for source, target, weight, one, _ in steps
             for n in range(most + 1 - one)]
    worths = settled({(node, 0): begins[node] for node in begins}, moves)
    found, best = [], None
    for n in range(most + 1):
        for node in ends:
            best = worths.get((node, n)) if better(worths.get((node, n)), best) else best
        found.append(best)
    return found


def first_break(values_found, most):
    """The first index of a value that is greater than most; None if there is none."""
    for count, value in enumerate(values_found):
        if value is not None and (value == ENDLESS or value > most):
            return count
    return None

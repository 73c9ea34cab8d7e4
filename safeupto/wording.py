"""The words of conditions and sizes, and the lines of papers."""

from safeupto.conditions import KINDS
from safeupto.kinds import is_name
from safeupto.reading import read_integer


def side_word(side):
    """The word for a name or None."""
    return "-" if side is None else side


def is_side_word(word):
    """Whether a word stands for a name or None."""
    return word == "-" or is_name(word)


def side_of(word):
    """The name or None for which a word stands."""
    return None if word == "-" else word


def read_count(word, greatest):
    """The count that is written like this, at most the greatest one, or None."""
    count = read_integer(word, greatest)
    return None if count is None or count < 0 else count


def read_place(word, greatest):
    """The name or the point, at most the greatest one, that is written like this, or None."""
    return word if is_name(word) else read_count(word, greatest)


def read_size(kind, name):
    """The size that is written with these words, whether or not it is one of a program, or None."""
    return (kind, side_of(name)) if kind in KINDS and is_side_word(name) else None


def size_words(size):
    """The words of a size."""
    return f"{size[0]} {side_word(size[1])}"


def limit_word(size):
    """The word for the size of a Limit."""
    return "ever" if size is None else str(size)


def node_words(node):
    """The words of a node."""
    point, plus, minus = node
    return f"{point} {plus or '-'} {minus or '-'}"


def condition_line(condition):
    """The line of a condition."""
    place, plus, minus, most = condition
    return f"condition {place} {side_word(plus)} {side_word(minus)} {most}"


def heights_lines(heights):
    """The lines of heights, in their order."""
    return [f"heights {len(heights)}", *[f"{node_words(node)} {heights[node]}" for node in heights]]


def breaking_lines(size, most, rules):
    """The lines of a short run for a size and a count."""
    return [f"breaking {size_words(size)} {most} {len(rules)}", *[rule_line(rule) for rule in rules]]


def rule_line(rule):
    """The line of a rule of a short run."""
    word, first, second = rule
    if word == "both":
        return f"both {first} {second}"
    steps = [f"{edge}:{plus or '-'}:{minus or '-'}" for edge, plus, minus in second]
    return " ".join(["walk", node_words(first), *steps])


def bounds_lines(size, most, bounds):
    """The lines of bounds for a size and a count, in their order."""
    zero, levels = bounds
    lines = [f"bounds {size_words(size)} {most} {len(zero)} {len(levels)}"]
    lines.extend([f"{node_words(head)} {node_words(node)} {zero[(head, node)]}" for head, node in zero])
    pairs, words = [], []
    for level in levels:
        # Most levels are about the same pairs as the one before.
        if list(level) != pairs:
            pairs = list(level)
            words = [f"{node_words(head)} {node_words(other)}" for head, other in pairs]
        lines.append(f"level {len(pairs)}")
        lines.extend([f"{word} {level[pair]}" for word, pair in zip(words, pairs)])
    return lines

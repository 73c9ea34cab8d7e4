"""Certificates: texts of a program, a condition and a paper about it."""

from safeupto.formats import format_program, program_of
from safeupto.limits import breaking, is_breaking
from safeupto.paperlines import PaperReader
from safeupto.papers import bounds, heights, is_bounds, is_heights
from safeupto.wording import bounds_lines, breaking_lines, condition_line, heights_lines


def program_lines(program):
    """The lines of a program, the line with their number ahead."""
    lines = format_program(program).split("\n")
    return [f"program {len(lines)}", *lines]


def certify(program, condition, size, most):
    """The certificate that shows that a condition holds for ever, or up to a count, or does not hold up to it."""
    # It raises all errors, also where its result is not needed.
    bounded = bounds(program, condition, size, most)
    high = heights(program, condition)
    if high is not None:
        lines = heights_lines(high)
    elif bounded is not None:
        lines = bounds_lines(size, most, bounded)
    else:
        lines = breaking_lines(size, most, breaking(program, condition, size))
    return "\n".join([*program_lines(program), condition_line(condition), *lines])


def check(text):
    """Whether the paper of a certificate is accepted for its program and its condition."""
    reader = PaperReader(text)
    told = reader.program_told()
    condition, paper = reader.next_paper()
    reader.finish()
    return is_shown(program_of(told), condition, paper)


def is_shown(program, condition, paper):
    """Whether a paper that was read is accepted; raises the errors of what recognizes it."""
    if paper[0] == "heights":
        return is_heights(program, condition, paper[1])
    if paper[0] == "breaking":
        return is_breaking(program, condition, paper[1], paper[2], paper[3])
    return is_bounds(program, condition, paper[1], paper[2], paper[3])

"""Dossiers: texts that show up to which count all wished conditions of a program hold."""

from safeupto.certificates import is_shown, program_lines
from safeupto.conditions import is_size
from safeupto.errors import InvalidSize, TooMany
from safeupto.formats import program_of
from safeupto.graphs import graph_of
from safeupto.kinds import GREATEST
from safeupto.limits import Limit
from safeupto.paperlines import PaperReader
from safeupto.papers import heights_on
from safeupto.powers import bounds_for
from safeupto.wishes import least_of_all, reckonings_for, wished
from safeupto.witnesses import breaking_rules
from safeupto.wording import bounds_lines, breaking_lines, condition_line, heights_lines, limit_word, size_words


def dossier(program, size):
    """The dossier of a program for a size."""
    rows = reckonings_for(program, size)
    broken = least_of_all(rows)
    most = None if broken is None else broken[2]
    if most is not None and most > GREATEST:
        raise TooMany(GREATEST)
    blocks = []
    if most != -1:
        blocks = [[condition_line(wish), *holding_lines(reckoning, size, most, limit)]
                  for wish, reckoning, limit in rows]
    if broken is not None:
        wish, reckoning, _ = broken
        blocks.append([condition_line(wish), *breaking_lines(size, most + 1, breaking_rules(reckoning, wish[3]))])
    lines = [f"dossier {size_words(size)} {limit_word(most)} {len(blocks)}", *program_lines(program)]
    for block in blocks:
        lines.extend(block)
    return "\n".join(lines)


def holding_lines(reckoning, size, most, limit):
    """The lines of heights for a condition with this limit, or of bounds if it does not hold for ever."""
    if limit is None:
        return heights_lines(heights_on(reckoning.net))
    return bounds_lines(size, most, bounds_for(reckoning, most, None))


def judge(text):
    """The Limit of a dossier if its papers show it, otherwise None."""
    reader = PaperReader(text)
    size, most, many = reader.first_line()
    told = reader.program_told()
    papers = []
    while len(papers) < many:
        papers.append(reader.next_paper())
    reader.finish()
    program = program_of(told)
    graph_of(program)
    if not is_size(program, size):
        raise InvalidSize(size)
    # All of them are looked at, as one that is not asked for can be wrong, too.
    shown = [is_shown(program, condition, paper) for condition, paper in papers]
    return Limit(most) if all(shown) and are_asked_for(wished(program), size, most, papers) else None


def are_asked_for(wishes, size, most, papers):
    """Whether these are the conditions and the kinds of papers of a dossier for a size and a limit."""
    held = papers
    if most is not None:
        if len(papers) == 0 or not is_for(papers[-1], "breaking", size, most + 1) or papers[-1][0] not in wishes:
            return False
        held = papers[:-1]
    if most == -1:
        return len(held) == 0
    if [condition for condition, _ in held] != wishes:
        return False
    return all([row[1][0] == "heights" or (most is not None and is_for(row, "bounds", size, most)) for row in held])


def is_for(row, word, size, most):
    """Whether the paper of a row is of this kind, for this size and count."""
    paper = row[1]
    return paper[0] == word and paper[1] == size and paper[2] == most

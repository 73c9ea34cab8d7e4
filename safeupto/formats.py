"""Programs as texts."""

from safeupto.errors import ParseError
from safeupto.programs import Program
from safeupto.reading import Reader


def format_program(program):
    """The text of a program."""
    lines = []
    heads = (("var", program.variables), ("param", program.parameters),
             ("array", program.arrays), ("width", program.widths))
    for word, rows in heads:
        lines.extend([words_of((word,) + row) for row in rows])
    for name, body in program.procedures:
        lines.extend([f"proc {name}", *lines_of(body), "end"])
    lines.extend(["main", *lines_of(program.main), "end"])
    return "\n".join(lines)


def words_of(things):
    """A line with these words and integers."""
    return " ".join([str(thing) for thing in things])


def lines_of(body):
    """The lines of the statements of a body."""
    lines = []
    for statement in body:
        word = statement[0]
        if word == "set":
            lines.append(words_of(("set", statement[1], *[part_word(part) for part in statement[2]])))
        elif word == "either":
            lines.extend(["either", *lines_of(statement[1]), "or", *lines_of(statement[2]), "end"])
        elif word == "loop":
            lines.extend([words_of(statement[:2]), *lines_of(statement[2]), "end"])
        else:
            lines.append(words_of(statement))
    return lines


def part_word(part):
    """The word of a part of a set."""
    variable, constant = part
    if variable is None:
        return str(constant)
    if isinstance(constant, str) or constant > 0:
        return f"{variable}+{constant}"
    return variable if constant == 0 else f"{variable}{constant}"


def parse_program(text):
    """The program that is written like this."""
    if not isinstance(text, str):
        raise ParseError(None)
    found = Reader(text.split("\n")).read()
    return Program(found["var"], found["main"], procedures=found["proc"], parameters=found["param"],
                   arrays=found["array"], widths=found["width"])

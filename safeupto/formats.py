"""Programs as texts."""

from safeupto.errors import ParseError
from safeupto.programs import Program
from safeupto.reading import Reader


def format_program(program):
    """The text of a program."""
    lines = [f"var {name} {low} {high}" for name, low, high in program.variables]
    lines.extend([f"param {name} {low} {high}" for name, low, high in program.parameters])
    lines.extend([f"array {name} {length}" for name, length in program.arrays])
    lines.extend([f"width {name} {bits}" for name, bits in program.widths])
    known = {}
    for name, body in program.procedures:
        lines.extend([f"proc {name}", *lines_of(body, known), "end"])
    lines.extend(["main", *lines_of(program.main, known), "end"])
    return "\n".join(lines)


def lines_of(body, known):
    """The lines of the statements of a body; known is a dict from the parts of sets to their words."""
    lines = []
    for statement in body:
        word = statement[0]
        if word == "set":
            parts = statement[2]
            if parts not in known:
                known[parts] = " ".join([part_word(variable, constant) for variable, constant in parts])
            lines.append(f"set {statement[1]} {known[parts]}")
        elif word == "either":
            lines.extend(["either", *lines_of(statement[1], known), "or", *lines_of(statement[2], known), "end"])
        elif word == "loop":
            lines.extend([f"loop {statement[1]}", *lines_of(statement[2], known), "end"])
        elif word == "input":
            lines.append(f"input {statement[1]} {statement[2]} {statement[3]}")
        elif word == "place" or word == "call":
            lines.append(f"{word} {statement[1]}")
        elif word == "read":
            lines.append(f"read {statement[1]} {statement[2]}")
        else:
            lines.append(f"guard {statement[1]} {statement[2]} {statement[3]} {statement[4]}")
    return lines


def part_word(variable, constant):
    """The word of a part of a set."""
    if variable is None:
        return str(constant)
    if isinstance(constant, str) or constant > 0:
        return f"{variable}+{constant}"
    return variable if constant == 0 else f"{variable}{constant}"


def parse_program(text):
    """The program that is written like this."""
    if not isinstance(text, str):
        raise ParseError(None)
    lines = text.split("\n")
    return program_of(Reader(lines, 0, len(lines)).read())


def program_of(found):
    """The program of which a reader found this."""
    return Program(found["var"], found["main"], procedures=found["proc"], parameters=found["param"],
                   arrays=found["array"], widths=found["width"])

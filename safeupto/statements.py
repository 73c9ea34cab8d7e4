"""The forms of statements and bodies, whatever their names stand for."""

from safeupto.kinds import is_name, is_number, is_range, is_within

MOST_STATEMENTS = 40
MOST_LEVELS = 4
MOST_PARTS = 4
GREATEST_COST = 99


def is_part(value):
    """Whether the value is a part of a set."""
    if not isinstance(value, tuple) or len(value) != 2:
        return False
    variable, constant = value
    return (variable is None or is_name(variable)) and (is_number(constant) or is_name(constant))


def is_parts(value):
    """Whether the value is the parts of a set."""
    if not isinstance(value, tuple) or not 1 <= len(value) <= MOST_PARTS:
        return False
    if not all([is_part(part) for part in value]):
        return False
    return len({variable for variable, _ in value}) == len(value)


def is_plain(statement):
    """Whether a tuple that begins with a string is a statement without bodies inside."""
    word, rest = statement[0], statement[1:]
    if word == "set":
        return len(rest) == 2 and is_name(rest[0]) and is_parts(rest[1])
    if word == "input":
        return len(rest) == 3 and is_name(rest[0]) and is_range(rest[1], rest[2])
    if word in ("call", "place"):
        return len(rest) == 1 and is_name(rest[0])
    if word == "read":
        return len(rest) == 2 and is_name(rest[0]) and is_name(rest[1])
    if word == "guard":
        return len(rest) == 4 and is_guard(rest[0], rest[1], rest[2], rest[3])
    return False


def is_guard(name, variable, most, cost):
    """Whether a guard can be written with these."""
    return is_name(name) and is_name(variable) and is_number(most) and is_within(cost, 1, GREATEST_COST)


def is_around(statement):
    """Whether a tuple that begins with a string is a statement, if the bodies inside are bodies."""
    if statement[0] == "either":
        return len(statement) == 3
    return statement[0] == "loop" and len(statement) == 3 and is_name(statement[1])


def bodies_inside(statement):
    """The bodies inside of a statement, a tuple."""
    if statement[0] == "either":
        return statement[1:]
    if statement[0] == "loop":
        return statement[2:]
    return ()


def count_in_body(value, levels):
    """How many statements are in a body with at most so many levels; None if the value is no such body."""
    if levels == 0 or not isinstance(value, tuple):
        return None
    many = 0
    for statement in value:
        inside = count_in_statement(statement, levels)
        # It ends here and not behind the loop: what is inside of each other can be written
        # with few tuples and still have more statements than can be counted.
        if inside is None or many + inside >= MOST_STATEMENTS:
            return None
        many = many + inside + 1
    return many


def count_in_statement(value, levels):
    """How many statements are inside of a statement in such a body; None if the value is none."""
    if not isinstance(value, tuple) or len(value) == 0 or not isinstance(value[0], str):
        return None
    if is_plain(value):
        return 0
    if not is_around(value):
        return None
    many = 0
    for body in bodies_inside(value):
        inside = count_in_body(body, levels - 1)
        if inside is None:
            return None
        many = many + inside
    return many


def flat(body):
    """The list of all statements of a body, those inside of one directly behind it."""
    found = []
    for statement in body:
        found.append(statement)
        for inside in bodies_inside(statement):
            found.extend(flat(inside))
    return found

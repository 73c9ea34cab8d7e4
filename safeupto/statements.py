"""The forms of statements and bodies, and the names that stand in them."""

from safeupto.kinds import GREATEST, LEAST, is_name, is_number, is_range, is_within

MOST_STATEMENTS = 40
MOST_LEVELS = 4
MOST_PARTS = 4
GREATEST_COST = 99


def look_at(value):
    """The look at a body; None if the value is none.

    A look is a tuple of dicts, whose keys are the names of variables, parameters, procedures and arrays in the body,
    so that each of them is looked at once, and two lists: that of the tuples (word, name) of loops, places and guards,
    and that of the parts of sets with several parts. The last thing is the list of its statements, in any order.
    """
    found = ({}, {}, {}, {}, [], [], [])
    return found if is_body_with(value, MOST_LEVELS, found) else None


def is_body_with(value, levels, found):
    """Whether the value is a body with at most so many levels; what it tells is put into found, a look."""
    if levels == 0 or not isinstance(value, tuple) or len(value) > MOST_STATEMENTS:
        return False
    found[6].extend(value)
    variables = found[0]
    for statement in value:
        if not isinstance(statement, tuple):
            return False
        many = len(statement)
        if many == 3:
            word, name, rest = statement
            if not isinstance(word, str):
                return False
            if word == "set":
                if not isinstance(name, str) or name not in variables and not is_new(name, variables):
                    return False
                if not are_parts(rest, found):
                    return False
            elif not is_long(word, name, rest, levels, found):
                return False
        elif many == 2:
            word, name = statement
            if not isinstance(word, str) or not is_short(word, name, found):
                return False
        elif not is_longer(statement, found):
            return False
    # What is inside of each other can be written with few tuples and still have more statements than
    # can be counted; with this look behind each body it ends before that.
    return len(found[6]) <= MOST_STATEMENTS


def is_long(word, name, rest, levels, found):
    """Whether a string and two things are a statement, but no set; what it tells is put into found, a look."""
    if word == "loop":
        if not is_name(name):
            return False
        found[4].append((word, name))
        return is_body_with(rest, levels - 1, found)
    if word == "either":
        return is_body_with(name, levels - 1, found) and is_body_with(rest, levels - 1, found)
    return word == "read" and is_known(name, found[3]) and is_known(rest, found[0])


def is_short(word, name, found):
    """Whether a string and one thing are a statement; what it tells is put into found, a look."""
    if word == "call":
        return is_known(name, found[2])
    if word != "place" or not is_name(name):
        return False
    found[4].append((word, name))
    return True


def is_longer(statement, found):
    """Whether a tuple is an input or a guard; what it tells is put into found, a look."""
    if len(statement) == 4:
        word, name, low, high = statement
        return isinstance(word, str) and word == "input" and is_known(name, found[0]) and is_range(low, high)
    if len(statement) != 5:
        return False
    word, guard, name, most, cost = statement
    if not isinstance(word, str) or word != "guard" or not is_name(guard):
        return False
    found[4].append((word, guard))
    return is_known(name, found[0]) and is_number(most) and is_within(cost, 1, GREATEST_COST)


def is_known(name, known):
    """Whether the value is a name, which is put into known."""
    return isinstance(name, str) and (name in known or is_new(name, known))


def is_new(name, known):
    """Whether a string is a name, which is put into known."""
    if is_name(name):
        known[name] = True
    return name in known


def are_parts(value, found):
    """Whether the value is the parts of a set; what it tells is put into found, a look."""
    if not isinstance(value, tuple) or not 0 < len(value) <= MOST_PARTS:
        return False
    variables, constants = found[0], found[1]
    for part in value:
        if not isinstance(part, tuple) or len(part) != 2:
            return False
        variable, constant = part
        if isinstance(variable, str):
            if variable not in variables and not is_new(variable, variables):
                return False
        elif variable is not None:
            return False
        if isinstance(constant, int):
            if constant is True or constant is False or constant > GREATEST or constant < LEAST:
                return False
        elif not isinstance(constant, str) or constant not in constants and not is_new(constant, constants):
            return False
    if len(value) == 1:
        return True
    found[5].append(value)
    return len({variable for variable, _ in value}) == len(value)


def numbered_look(look):
    """The look at the body with numbers in the places of the names of parameters."""
    variables, _, callees, arrays, given, several, statements = look
    return (variables, {}, callees, arrays, given, several, statements)


def opposite_look(look):
    """The look at the body in which every variable has the opposite sign."""
    variables, _, callees, _, given, several, statements = look
    return (variables, {}, callees, {}, [row for row in given if row[0] != "guard"], several, statements)

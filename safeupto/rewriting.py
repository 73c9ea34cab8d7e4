"""Bodies that are made from other bodies."""


def rewritten(body, change):
    """The body with the tuple change(statement) in the place of each statement without bodies inside."""
    found = []
    for statement in body:
        if statement[0] == "either":
            found.append(("either", rewritten(statement[1], change), rewritten(statement[2], change)))
        elif statement[0] == "loop":
            found.append(("loop", statement[1], rewritten(statement[2], change)))
        else:
            found.extend(change(statement))
    return tuple(found)


def numbered(body, numbers):
    """The body with numbers, a dict, in the places of the names of parameters."""
    found = []
    for statement in body:
        word = statement[0]
        if word == "set":
            parts = statement[2]
            if any([isinstance(constant, str) for _, constant in parts]):
                parts = tuple([(variable, numbers.get(constant, constant)) for variable, constant in parts])
                statement = (word, statement[1], parts)
        elif word == "loop":
            statement = (word, statement[1], numbered(statement[2], numbers))
        elif word == "either":
            statement = (word, numbered(statement[1], numbers), numbered(statement[2], numbers))
        found.append(statement)
    return tuple(found)


def opposite(body):
    """The body, without names of parameters, in which every variable has the opposite sign."""
    return rewritten(body, opposite_statement)


def opposite_statement(statement):
    """What stands in the place of a statement, in a tuple, if every variable has the opposite sign."""
    word = statement[0]
    if word == "set":
        parts = [(variable, -constant) for variable, constant in statement[2]]
        return (("set", statement[1], tuple(parts)),)
    if word == "input":
        return ((word, statement[1], -statement[3], -statement[2]),)
    if word in ("guard", "read"):
        return ()
    return (statement,)


def guards_in(body):
    """The list of the guards in a body."""
    found = []
    for statement in body:
        word = statement[0]
        if word == "guard":
            found.append(statement)
        elif word == "loop":
            found.extend(guards_in(statement[2]))
        elif word == "either":
            found.extend([*guards_in(statement[1]), *guards_in(statement[2])])
    return found

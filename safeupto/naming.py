"""What the names of a program stand for."""

from safeupto.errors import InvalidProgram


def declared(rows, met):
    """A dict with the first thing in each row, which is met; raises InvalidProgram with one that was met before."""
    found = {}
    for row in rows:
        name = row[0]
        if name in met:
            raise InvalidProgram(name)
        met[name] = True
        found[name] = True
    return found


def are_all_in(names, known):
    """Whether all of these names are known."""
    for name in names:
        if name not in known:
            return False
    return True


def are_given(given, met, told):
    """Meets the names of loops, places and guards, and puts them into told; returns whether they may stand there."""
    for word, name in given:
        if name not in met:
            met[name] = True
            told[word].append(name)
        elif word != "place" or name not in told[word]:
            # Only places share names.
            return False
    return True


def names_told(variables, procedures, parameters, arrays, widths, main, looks):
    """A dict from the words of loops, places and guards to the lists of their names, in their order.

    Raises InvalidProgram with the first name, body or variable of widths that is wrong; looks are those at main and at
    the bodies of the procedures.
    """
    met = {"main": True}
    known_variables = declared(variables, met)
    known_procedures = declared(procedures, met)
    known_parameters = declared(parameters, met)
    known_arrays = declared(arrays, met)
    told = {"loop": [], "place": [], "guard": []}
    bodies = [(None, main), *procedures]
    for (name, body), look in zip(bodies, looks):
        # A procedure calls only those behind it.
        if name is not None:
            del known_procedures[name]
        if not (are_all_in(look[0], known_variables) and are_all_in(look[1], known_parameters)
                and are_all_in(look[2], known_procedures) and are_all_in(look[3], known_arrays)
                and are_given(look[4], met, told)):
            raise InvalidProgram(body)
    for variable, _ in widths:
        if variable not in known_variables:
            raise InvalidProgram(variable)
    return told

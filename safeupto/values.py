"""Greatest values for a count."""

from safeupto.errors import InvalidNumber
from safeupto.kinds import GREATEST, is_within
from safeupto.reckoning import reckoning_for


def greatest(program, condition, size, most):
    """The greatest value of a condition for a count: an integer, None or "endless"."""
    reckoning = reckoning_for(program, condition, size)
    if not is_within(most, 0, GREATEST):
        raise InvalidNumber(most)
    return reckoning.value_for(most)

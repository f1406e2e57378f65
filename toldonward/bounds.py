"""The bound on the runs of effects in one deed or start."""

from toldonward.checks import is_integer
from toldonward.errors import InvalidBound

GREATEST_MOST = 2000


def check_most(value):
    """Raise InvalidBound unless the value, which may be any value, is an integer from 1 to 2000."""
    if not is_integer(value) or not 1 <= value <= GREATEST_MOST:
        raise InvalidBound(value)

"""The bounds on the runs of effects in one deed or start, and on the standings that are kept."""

from toldonward.checks import is_integer
from toldonward.errors import InvalidBound

GREATEST_MOST = 2000
GREATEST_BOOK_LIMIT = 10000
GREATEST_PAIR_LIMIT = 20000


def check_bound(value, greatest):
    """Raise InvalidBound unless the value, which may be any value, is an integer from 1 to the greatest."""
    if not is_integer(value) or not 1 <= value <= greatest:
        raise InvalidBound(value)


def check_most(value):
    check_bound(value, GREATEST_MOST)


def check_book_bounds(most, limit):
    """Raise InvalidBound for the first one that may not be given to a book."""
    check_most(most)
    check_bound(limit, GREATEST_BOOK_LIMIT)


def check_pair_bounds(most, limit):
    """Raise InvalidBound for the first one that may not be given to a comparison."""
    check_most(most)
    check_bound(limit, GREATEST_PAIR_LIMIT)

"""The codes that are answered when a call is refused, each without the minus sign it is answered with."""

NO_SUCH_SLOT = 2
NOT_CREATED = 11
OUT_OF_RANGE = 22
ZERO_POLYNOMIAL = 33
TOO_LARGE = 75


def refused(code):
    """The answer of a call that is refused."""
    return [-code]

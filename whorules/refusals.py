"""The numbers that a call answers alone where it is refused."""

NO_SUCH = -2
NOT_BEGUN = -11
NOT_RIGHT = -22
NONE_OR_TOO_MUCH = -33

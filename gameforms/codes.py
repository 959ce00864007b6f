"""The error codes that a call may answer."""

UNKNOWN = -2
NO_INSTANCE = -11
NOT_READY = -16
CONTAINED_ALREADY = -17
INVALID = -22
LIMIT_REACHED = -28
NONE_FOUND = -33
NO_END = -75

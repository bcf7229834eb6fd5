"""The numbers that are answered when a call is refused."""

NO_MEMBER = -2
NO_ROUTE = -6
NO_SERVER = -11
ASN_IN_USE = -17
INVALID = -22
LIMIT_REACHED = -28
NO_MATCH = -33

"""The numbers below 0 that calls are refused with."""

NOT_ALLOWED = -1
NO_SUCH_TUBE = -2
NOTHING_LEADS_ON = -4
CANNOT_BE = -6
TOO_MANY_RACKS = -9

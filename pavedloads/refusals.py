"""The numbers by which a call is refused."""

NONE_SUCH = -2
NO_LOADS = -6
NOT_BEGUN = -11
IT_CAN_BE = -17
OUT_OF_RANGE = -22
TOO_MANY = -28
IT_CANNOT_BE = -33

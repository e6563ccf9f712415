"""The numbers that refused calls answer."""

NONE_THERE = -2
NOT_CUT = -6
NOT_ENOUGH = -12
TOO_EARLY = -13
WRONG_STAGE = -16
CUT_ALREADY = -17
NOT_AS_TOLD = -22
TOO_MANY = -28
NONE_FITS = -33

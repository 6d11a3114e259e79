"""The numbers that are answered alone when a call is refused."""

MAY_NOT_BE = -2
IS_THERE = -3
NOT_THERE = -3
KEY_IS_THERE = -4
FULL = -5

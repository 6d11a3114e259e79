"""The numbers that are answered alone when a call is refused."""

MAY_NOT_BE = -2
IS_THERE = -3
NOT_THERE = -3
TOLD_TWICE = -3
KEY_IS_THERE = -4
KEY_TWICE = -4
FULL = -5
IS_NO_PAGE = -6
# The number of the page that's wrong is taken from this.
WRONG_PAGE = -100

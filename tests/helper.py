"""Calls as lists of numbers, and the answers to a line of them, one list each.

Keys may be bytes or lists. The calls' names end with an underscore where
Python has the name itself.
"""

from pageindex.index import answers

TOP = 2 ** 64 - 1
MOST_ROW = 2 ** 32 - 1

NONE, AT, PAST = 0, 1, 2


def call(number, numbers, lists):
    told = [number, len(numbers), *numbers, len(lists)]
    for one in lists:
        told += [len(one), *one]
    return told


def open_(unique):
    return call(1, [unique], [])


def put(row, key):
    return call(2, [row], [key])


def drop(row, key):
    return call(3, [row], [key])


def count():
    return call(4, [], [])


def find(most, key):
    return call(5, [most], [key])


def range_(down=0, lo=NONE, hi=NONE, skip=0, most=TOP, lokey=b"", hikey=b""):
    return call(6, [down, lo, hi, skip, most], [lokey, hikey])


def nth(i):
    return call(7, [i], [])


def rank(row, key):
    return call(8, [row], [key])


def split_answers(told):
    parts = []
    at = 0
    while at < len(told):
        size = told[at]
        parts.append(told[at + 1:at + 1 + size])
        at += 1 + size
    return parts


def run(*calls):
    """The answers to these calls on a new index."""
    line = [number for one in calls for number in one]
    parts = split_answers(answers(line))
    if len(parts) != len(calls):
        raise AssertionError(f"{len(calls)} calls, {len(parts)} answers")
    return parts


def last(*calls):
    return run(*calls)[-1]


def puts(entries):
    """The calls that put these entries, each a row and a key."""
    return [put(row, key) for row, key in entries]


def lets_in(lo, lokey, hi, hikey, key):
    """Whether a key lies between two bounds, by the document's words."""
    above = lo == NONE or key > lokey or (lo == AT and key == lokey)
    below = hi == NONE or key < hikey or (hi == AT and key == hikey)
    return above and below


def told(entries):
    """Entries, each a row and a key, as range tells them."""
    return [number for row, key in entries for number in [row, len(key), *key]]


def whole(*calls):
    """All that the index holds behind these calls, as a list of (row, key)."""
    answer = last(*calls, range_())
    entries = []
    at = 1
    while at < len(answer):
        row, size = answer[at], answer[at + 1]
        entries.append((row, bytes(answer[at + 2:at + 2 + size])))
        at += 2 + size
    if len(entries) != answer[0]:
        raise AssertionError(f"{answer[0]} counted, {len(entries)} told")
    return entries

"""The calls on an index, and what each of them answers."""

from pageindex.entries import MOST_ROW, Index
from pageindex.line import calls_of
from pageindex.refusals import MAY_NOT_BE, NOT_THERE

MOST_KEY_BYTES = 1000


def row_may_be(row):
    return row <= MOST_ROW


def key_may_be(key):
    return len(key) <= MOST_KEY_BYTES


def choice_may_be(number):
    return number <= 1


def told(entry):
    """An entry as it's answered: its row, how many bytes its key has, these."""
    key = entry[0]
    row = entry[1]
    return [row, len(key)] + list(key)


def answer_to_start(index, numbers, lists):
    unique = numbers[0]
    if not choice_may_be(unique):
        return [MAY_NOT_BE]
    index.restart(unique == 1)
    return [0]


def answer_to_put(index, numbers, lists):
    row = numbers[0]
    key = tuple(lists[0])
    if not (row_may_be(row) and key_may_be(key)):
        return [MAY_NOT_BE]
    return [index.put(row, key)]


def answer_to_drop(index, numbers, lists):
    row = numbers[0]
    key = tuple(lists[0])
    if not (row_may_be(row) and key_may_be(key)):
        return [MAY_NOT_BE]
    return [index.drop(row, key)]


def answer_to_count(index, numbers, lists):
    return [index.size()]


def answer_to_find(index, numbers, lists):
    most = numbers[0]
    key = tuple(lists[0])
    if not key_may_be(key):
        return [MAY_NOT_BE]
    rows = [entry[1] for entry in index.with_key(key)]
    return [len(rows)] + rows[:most]


def answer_to_range(index, numbers, lists):
    down = numbers[0]
    low = numbers[1]
    high = numbers[2]
    skip = numbers[3]
    most = numbers[4]
    low_key = tuple(lists[0])
    high_key = tuple(lists[1])
    if not (choice_may_be(down) and key_may_be(low_key) and key_may_be(high_key)):
        return [MAY_NOT_BE]
    found = index.between(low, low_key, high, high_key)
    if down == 1:
        found = list(reversed(found))
    answer = [len(found)]
    for entry in found[skip:skip + most]:
        answer.extend(told(entry))
    return answer


def answer_to_nth(index, numbers, lists):
    place = numbers[0]
    if place >= index.size():
        return [NOT_THERE]
    return [0] + told(index.entries[place])


def answer_to_rank(index, numbers, lists):
    row = numbers[0]
    key = tuple(lists[0])
    if not (row_may_be(row) and key_may_be(key)):
        return [MAY_NOT_BE]
    return [index.rank(row, key)]


ANSWERERS = {
    1: answer_to_start,
    2: answer_to_put,
    3: answer_to_drop,
    4: answer_to_count,
    5: answer_to_find,
    6: answer_to_range,
    7: answer_to_nth,
    8: answer_to_rank,
}


def answers(calls):
    """The answers to a line's calls on a new index, each with how many numbers it has before it."""
    index = Index()
    given = []
    for call in calls_of(calls):
        answerer = ANSWERERS[call[0]]
        answer = answerer(index, call[1], call[2])
        given.append(len(answer))
        given.extend(answer)
    return given

"""The calls on an index, and what each of them answers."""

from pageindex.entries import MOST_KEY_BYTES, MOST_ROW, Index
from pageindex.line import calls_of
from pageindex.loading import load
from pageindex.reading import NoPage, page_of
from pageindex.refusals import IS_NO_PAGE, MAY_NOT_BE, NOT_THERE


def row_may_be(row):
    return row <= MOST_ROW


def key_may_be(key):
    return len(key) <= MOST_KEY_BYTES


def entry_may_be(entry):
    return key_may_be(entry[0]) and row_may_be(entry[1])


def choice_may_be(number):
    return number <= 1


def told(item):
    """An item as it's answered: its row, how many bytes its key has, these, and what it has above the leaves."""
    key = item[0]
    row = item[1]
    return [row, len(key)] + list(key) + list(item[2:])


def answer_to_start(index, numbers, lists):
    unique = numbers[0]
    if not choice_may_be(unique):
        return [MAY_NOT_BE]
    index.restart(unique == 1, [])
    return [0]


def answer_to_put(index, numbers, lists):
    row = numbers[0]
    key = tuple(lists[0])
    if not (row_may_be(row) and key_may_be(key)):
        return [MAY_NOT_BE]
    return [index.put(row, key)]


def answer_to_drop(index, numbers, lists):
    row = numbers[0]
    key = tuple(lists[0])
    if not (row_may_be(row) and key_may_be(key)):
        return [MAY_NOT_BE]
    return [index.drop(row, key)]


def answer_to_count(index, numbers, lists):
    return [index.size()]


def answer_to_find(index, numbers, lists):
    most = numbers[0]
    key = tuple(lists[0])
    if not key_may_be(key):
        return [MAY_NOT_BE]
    rows = [entry[1] for entry in index.with_key(key)]
    return [len(rows)] + rows[:most]


def answer_to_range(index, numbers, lists):
    down = numbers[0]
    low = numbers[1]
    high = numbers[2]
    skip = numbers[3]
    most = numbers[4]
    low_key = tuple(lists[0])
    high_key = tuple(lists[1])
    if not (choice_may_be(down) and key_may_be(low_key) and key_may_be(high_key)):
        return [MAY_NOT_BE]
    found = index.between(low, low_key, high, high_key)
    if down == 1:
        found = list(reversed(found))
    answer = [len(found)]
    for entry in found[skip:skip + most]:
        answer.extend(told(entry))
    return answer


def answer_to_nth(index, numbers, lists):
    place = numbers[0]
    if place >= index.size():
        return [NOT_THERE]
    return [0] + told(index.entries[place])


def answer_to_rank(index, numbers, lists):
    row = numbers[0]
    key = tuple(lists[0])
    if not (row_may_be(row) and key_may_be(key)):
        return [MAY_NOT_BE]
    return [index.rank(row, key)]


def answer_to_begins(index, numbers, lists):
    key = tuple(lists[0])
    if not key_may_be(key):
        return [MAY_NOT_BE]
    return [index.beginning_with(key)]


def answer_to_levels(index, numbers, lists):
    return [len(index.levels())]


def answer_to_pages(index, numbers, lists):
    level = numbers[0]
    levels = index.levels()
    if level >= len(levels):
        return [NOT_THERE]
    return [len(levels[level])]


def answer_to_page(index, numbers, lists):
    level = numbers[0]
    place = numbers[1]
    levels = index.levels()
    if level >= len(levels) or place >= len(levels[level]):
        return [NOT_THERE]
    page = levels[level][place]
    return [len(page.told)] + page.told


def answer_to_sum(index, numbers, lists):
    return [index.root().checksum]


def answer_to_build(index, numbers, lists):
    unique = numbers[0]
    entries = [(tuple(entry[1:]), entry[0]) for entry in lists]
    if not (choice_may_be(unique) and all([entry_may_be(entry) for entry in entries])):
        return [MAY_NOT_BE]
    return [index.build(unique == 1, entries)]


def answer_to_read(index, numbers, lists):
    try:
        page = page_of(lists[0])
    except NoPage:
        return [IS_NO_PAGE]
    level = page[0]
    items = page[1]
    answer = [len(items), level]
    for item in items:
        answer.extend(told(item))
    return answer


def answer_to_load(index, numbers, lists):
    unique = numbers[0]
    if not choice_may_be(unique):
        return [MAY_NOT_BE]
    return [load(index, unique == 1, lists)]


ANSWERERS = {
    1: answer_to_start,
    2: answer_to_put,
    3: answer_to_drop,
    4: answer_to_count,
    5: answer_to_find,
    6: answer_to_range,
    7: answer_to_nth,
    8: answer_to_rank,
    9: answer_to_begins,
    10: answer_to_levels,
    11: answer_to_pages,
    12: answer_to_page,
    13: answer_to_sum,
    14: answer_to_build,
    15: answer_to_read,
    16: answer_to_load,
}


def answers(calls):
    """The answers to a line's calls on a new index, each with how many numbers it has before it."""
    index = Index()
    given = []
    for call in calls_of(calls):
        answerer = ANSWERERS[call[0]]
        answer = answerer(index, call[1], call[2])
        given.append(len(answer))
        given.extend(answer)
    return given

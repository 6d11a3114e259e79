"""An index loaded from the bytes of its pages."""

from pageindex.entries import MOST_ENTRIES, has_key_twice, rise
from pageindex.pages import Layout
from pageindex.reading import NoPage, page_of
from pageindex.refusals import FULL, WRONG_PAGE


def leaves_of(pages):
    """The entries of each leaf, from the first page on as far as leaves go.

    Bytes that can't be read don't tell that the leaves are at their end: None
    stands for them, and what is behind them isn't looked at.
    """
    leaves = []
    for told in pages:
        try:
            page = page_of(told)
        except NoPage:
            leaves.append(None)
            break
        if page[0] > 0:
            break
        leaves.append(page[1])
    return leaves


def may_follow(before, entries, unique):
    """Whether a leaf's entries may stand behind the last one before them (a list of it, or of none)."""
    together = before + entries
    return rise(together) and not (unique and has_key_twice(together))


def first_wrong_leaf(leaves, unique):
    """The number of the first leaf that's wrong, or None."""
    before = []
    for number, entries in enumerate(leaves):
        if entries is None or not may_follow(before, entries, unique):
            return number
        before = (before + entries)[-1:]
    return None


def first_wrong_page(pages, right_pages):
    """The number of the first page that isn't the right one, or is one too many, or is lacking; or None."""
    for number, pair in enumerate(zip(pages, right_pages)):
        if pair[0] != pair[1]:
            return number
    if len(pages) == len(right_pages):
        return None
    return min(len(pages), len(right_pages))


def bytes_of_pages(levels):
    """Each page's bytes, the leaves first, then level by level."""
    pages = []
    for level in levels:
        pages.extend([page.told for page in level])
    return pages


def load(index, unique, pages):
    """From now on the index is the one that has these pages, each told by its bytes."""
    leaves = leaves_of(pages)
    entries = []
    for leaf in leaves:
        entries.extend(leaf or [])
    if len(entries) > MOST_ENTRIES:
        return FULL
    wrong = first_wrong_leaf(leaves, unique)
    if wrong is None:
        wrong = first_wrong_page(pages, bytes_of_pages(Layout().levels_of(entries)))
    if wrong is not None:
        return WRONG_PAGE - wrong
    index.restart(unique, entries)
    return len(entries)

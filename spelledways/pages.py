"""Roots of trees of pages: what they are, and what they tell."""

from spelledways.errors import InvalidSize
from spelledways.keys import in_range, is_key
from spelledways.plain import is_number, is_tuple_of, is_whole

EMPTY = ("leaf", ())
LEAST_MOST = 3
GREATEST_MOST = 16


def need_most(most):
    """Raise InvalidSize("most") unless this is an integer from 3 to 16."""
    if not is_whole(most) or most < LEAST_MOST or most > GREATEST_MOST:
        raise InvalidSize("most")


def half_of(most):
    """Half of it, rounded up: the fewest things in a page that is not the root."""
    need_most(most)
    return (most + 1) // 2


def leaf_span(entries_here):
    """What page_span tells of a leaf with these entries."""
    for at, entry in enumerate(entries_here):
        if not is_tuple_of(entry, 2) or not is_key(entry[0]):
            return None
        if at > 0 and entry[0] <= entries_here[at - 1][0]:
            return None
    if not entries_here:
        return 1, None, None
    return 1, entries_here[0][0], entries_here[-1][0]


def branch_span(most, keys, pages):
    """What page_span tells of a branch with these keys and pages."""
    spans = [page_span(most, page, half_of(most)) for page in pages]
    if None in spans or len({span[0] for span in spans}) > 1:
        return None
    for at, key in enumerate(keys):
        if not is_key(key) or key <= spans[at][2] or key > spans[at + 1][1]:
            return None
    return spans[0][0] + 1, spans[0][1], spans[-1][2]


def page_span(most, value, least):
    """The levels, the least and the greatest key of a page with at least so many things; None for no such page."""
    if is_tuple_of(value, 2) and value[0] == "leaf":
        if isinstance(value[1], tuple) and least <= len(value[1]) <= most:
            return leaf_span(value[1])
    if is_tuple_of(value, 3) and value[0] == "branch":
        keys, pages = value[1:]
        if isinstance(keys, tuple) and is_tuple_of(pages, len(keys) + 1) and max(least, 2) <= len(pages) <= most:
            return branch_span(most, keys, pages)
    return None


def is_root(most, value):
    """Whether a value is a root for `most`."""
    need_most(most)
    return page_span(most, value, 0) is not None


def depth(page):
    """The number of levels of a root."""
    levels = 1
    while page[0] == "branch":
        page = page[2][0]
        levels += 1
    return levels


def shape(page):
    """How many pages there are on each level, the root's first."""
    counts = []
    level = [page]
    while level:
        counts.append(len(level))
        level = [part for above in level if above[0] == "branch" for part in above[2]]
    return tuple(counts)


def entries(page):
    """All entries of a root, ascending."""
    if page[0] == "leaf":
        return page[1]
    found = []
    for part in page[2]:
        found.extend(entries(part))
    return tuple(found)


def page_at(keys, key):
    """The number of the page of a branch with these keys in which a key belongs."""
    at = 0
    while at < len(keys) and keys[at] <= key:
        at += 1
    return at


def entry_of(page, key):
    """The entry with a key, or None."""
    while page[0] == "branch":
        page = page[2][page_at(page[1], key)]
    for entry in page[1]:
        if entry[0] == key:
            return entry
    return None


def look(page, key):
    """The thing of a key, or None."""
    entry = entry_of(page, key)
    return None if entry is None else entry[1]


def has(page, key):
    """Whether there is an entry with a key."""
    return entry_of(page, key) is not None


def may_hold(keys, at, bounds):
    """Whether the page with a number, in a branch with these keys, may have a key in a range."""
    low, high = bounds
    if high is not None and at > 0 and keys[at - 1] > high:
        return False
    return low is None or at == len(keys) or keys[at] > low


def entries_within(page, bounds, limit):
    """The list of the first entries in a range, at most `limit` unless this is None."""
    if page[0] == "leaf":
        return [entry for entry in page[1] if in_range(bounds, entry[0])][:limit]
    found = []
    for at, part in enumerate(page[2]):
        if len(found) == limit:
            return found
        if may_hold(page[1], at, bounds):
            found.extend(entries_within(part, bounds, None if limit is None else limit - len(found)))
    return found


def scan(page, low, high, *, limit=None):
    """The entries with keys in a range, ascending, the first `limit` ones alone if this is a number."""
    if limit is not None and not is_number(limit):
        raise InvalidSize("limit")
    return tuple(entries_within(page, (low, high), limit))


def fewest(most, deep):
    """The fewest entries that a root with so many levels can have."""
    half = half_of(most)
    if deep == 1:
        return 0
    many = 2
    for _ in range(deep - 1):
        many = many * half
    return many


def greatest(most, deep):
    """The most entries that a root with so many levels can have."""
    need_most(most)
    many = 1
    for _ in range(deep):
        many = many * most
    return many


def pages_in(page):
    """All pages of a root, itself and within."""
    found = [page]
    if page[0] == "branch":
        for part in page[2]:
            found.extend(pages_in(part))
    return found


def fresh(old, new):
    """How many unlike pages stand in the root `new` and not in the root `old`."""
    # The texts of repr are compared, since True and 1 are equal for Python, but unlike things.
    texts_of_old = {repr(page): True for page in pages_in(old)}
    return len({repr(page) for page in pages_in(new) if repr(page) not in texts_of_old})

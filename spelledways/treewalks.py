"""Walks along a tree, trees built, parted and joined, and differences of two."""

from spelledways.errors import Refused
from spelledways.keys import is_empty_range, need_key
from spelledways.pagecuts import branch_of, joined_roots, parted_root, root_with, root_without
from spelledways.pages import EMPTY, has, need_most, page_at, scan


def first(page):
    """The entry of a root with the least key, or None."""
    found = scan(page, None, None, limit=1)
    return found[0] if found else None


def last(page):
    """The entry of a root with the greatest key, or None."""
    while page[0] == "branch":
        page = page[2][-1]
    return page[1][-1] if page[1] else None


def after(page, key):
    """The entry with the least key greater than a key, or None."""
    need_key(key)
    for entry in scan(page, key, None, limit=2):
        if entry[0] > key:
            return entry
    return None


def before(page, key):
    """The entry with the greatest key less than a key, or None."""
    need_key(key)
    return last_below(page, key)


def last_below(page, key):
    """The last entry of a page with a key less than a key, or None."""
    if page[0] == "leaf":
        below = [entry for entry in page[1] if entry[0] < key]
        return below[-1] if below else None
    for at in reversed(range(page_at(page[1], key) + 1)):
        found = last_below(page[2][at], key)
        if found is not None:
            return found
    return None


def even_lots(things, most):
    """A row of at least one thing, cut into the fewest lots of at most so many, of nearly one size."""
    many = (len(things) + most - 1) // most
    ends = [len(things) * at // many for at in range(many + 1)]
    return [things[ends[at]:ends[at + 1]] for at in range(many)]


def built(most, entries):
    """Some root with the entries of an ascending tuple."""
    need_most(most)
    if len(entries) <= most:
        return ("leaf", tuple(entries))
    pages = [("leaf", tuple(lot)) for lot in even_lots(entries, most)]
    while len(pages) > 1:
        pages = [branch_of(lot) for lot in even_lots(pages, most)]
    return pages[0]


def parted(most, page, key):
    """Some roots with all entries whose keys are less than a key, and with all others."""
    need_most(most)
    return parted_root(most, page, key)


def joined(most, left, right):
    """Some root with all entries of two roots, all keys of the left one below those of the right one."""
    need_most(most)
    end = last(left)
    begin = first(right)
    if end is not None and begin is not None and end[0] >= begin[0]:
        raise Refused("order")
    return joined_roots(most, left, right)


def without_range(most, page, low, high):
    """Some root without the entries in a range."""
    need_most(most)
    if is_empty_range((low, high)):
        return page
    ahead = EMPTY if low is None else parted_root(most, page, low)[0]
    # No key lies between another one and this one with a blank behind it: the blank is below all signs of keys.
    behind = EMPTY if high is None else parted_root(most, page, high + " ")[1]
    return joined_roots(most, ahead, behind)


def differences(one, other):
    """The triples (key, earlier, later) of all keys that not both roots have with things that are alike."""
    earlier = {entry[0]: entry[1:] for entry in scan(one, None, None)}
    later = {entry[0]: entry[1:] for entry in scan(other, None, None)}
    rows = [(key, earlier.get(key, ()), later.get(key, ())) for key in sorted(set(list(earlier) + list(later)))]
    return unlike_rows(rows)


def unlike_rows(rows):
    """Those rows of differences whose earlier and later are not alike."""
    return tuple([row for row in rows if repr(row[1]) != repr(row[2])])


def changed(most, page, rows):
    """Some root with the entries of a root after each key of the rows has what is told as later."""
    need_most(most)
    for key, _, later in rows:
        if later:
            page = root_with(most, page, key, later[0])
        elif has(page, key):
            page = root_without(most, page, key)
    return page


def turned(rows):
    """Differences with earlier and later exchanged."""
    return tuple([(key, later, earlier) for key, earlier, later in rows])


def added(first, second):
    """Two tuples of differences put together."""
    one = {row[0]: row for row in first}
    two = {row[0]: row for row in second}
    rows = []
    for key in sorted(set(list(one) + list(two))):
        begin = one[key] if key in one else two[key]
        end = two[key] if key in two else one[key]
        rows.append((key, begin[1], end[2]))
    return unlike_rows(rows)

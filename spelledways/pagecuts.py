"""Roots put together and taken apart. `most` is right wherever it is handed in here."""

from spelledways.pages import EMPTY, depth, half_of, page_at


def first_key(page):
    """The least key of a page that is not empty."""
    while page[0] == "branch":
        page = page[2][0]
    return page[1][0][0]


def branch_of(pages):
    """The branch with these pages."""
    return ("branch", tuple([first_key(page) for page in pages[1:]]), tuple(pages))


def page_of(word, things):
    """The leaf with these entries, or the branch with these pages."""
    return ("leaf", tuple(things)) if word == "leaf" else branch_of(things)


def one_or_two(most, word, things):
    """One page with these things, or two halves if they are too many for one."""
    if len(things) <= most:
        return [page_of(word, things)]
    half = len(things) // 2
    return [page_of(word, things[:half]), page_of(word, things[half:])]


def merged_pages(most, left, right):
    """The things of two neighbours as one page, or, if they are too many, as two of like size."""
    return one_or_two(most, left[0], left[-1] + right[-1])


def root_of(pages):
    """The root above some pages of one level, at most as many as a branch takes."""
    if not pages:
        return EMPTY
    return pages[0] if len(pages) == 1 else branch_of(pages)


def pages_with(most, page, key, thing):
    """The page, or the two, that a page becomes when a key gets a thing."""
    if page[0] == "leaf":
        ahead = [entry for entry in page[1] if entry[0] < key]
        behind = [entry for entry in page[1] if entry[0] > key]
        return one_or_two(most, "leaf", ahead + [(key, thing)] + behind)
    at = page_at(page[1], key)
    pages = list(page[2])
    pages[at:at + 1] = pages_with(most, pages[at], key, thing)
    return one_or_two(most, "branch", pages)


def root_with(most, page, key, thing):
    """The root in which a key has a thing."""
    return root_of(pages_with(most, page, key, thing))


def page_without(most, page, key):
    """What a page becomes without a key: it may have too few things then."""
    if page[0] == "leaf":
        return ("leaf", tuple([entry for entry in page[1] if entry[0] != key]))
    at = page_at(page[1], key)
    pages = list(page[2])
    pages[at] = page_without(most, pages[at], key)
    if len(pages[at][-1]) < half_of(most):
        low = max(at - 1, 0)
        pages[low:low + 2] = merged_pages(most, pages[low], pages[low + 1])
    return branch_of(pages)


def root_without(most, page, key):
    """The root without a key that is there."""
    page = page_without(most, page, key)
    return page if page[0] == "leaf" else root_of(page[2])


def side_by_side(most, left, right):
    """Two roots of one depth as pages: neither stays that has too few things for a page below the root."""
    if min(len(left[-1]), len(right[-1])) >= half_of(most):
        return [left, right]
    return merged_pages(most, left, right)


def hung_behind(most, page, right, levels):
    """The one or two pages that a page becomes with a root put so many levels below it at its right edge."""
    if levels == 0:
        return side_by_side(most, page, right)
    return one_or_two(most, "branch", list(page[2][:-1]) + hung_behind(most, page[2][-1], right, levels - 1))


def hung_ahead(most, left, page, levels):
    """The one or two pages that a page becomes with a root put so many levels below it at its left edge."""
    if levels == 0:
        return side_by_side(most, left, page)
    return one_or_two(most, "branch", hung_ahead(most, left, page[2][0], levels - 1) + list(page[2][1:]))


def joined_roots(most, left, right):
    """Some root with the entries of two, all keys of the left one below all of the right one."""
    if left == EMPTY or right == EMPTY:
        return right if left == EMPTY else left
    levels = depth(left) - depth(right)
    if levels >= 0:
        return root_of(hung_behind(most, left, right, levels))
    return root_of(hung_ahead(most, left, right, -levels))


def parted_root(most, page, key):
    """Two roots: with the entries below a key, and with the others."""
    if page[0] == "leaf":
        below = [entry for entry in page[1] if entry[0] < key]
        return ("leaf", tuple(below)), ("leaf", page[1][len(below):])
    at = page_at(page[1], key)
    left, right = parted_root(most, page[2][at], key)
    # The roots that come from below are never deeper than the pages beside them, so the joins climb
    # level by level, and only pages along the two edges of the cut are made anew.
    ahead = root_of(page[2][:at])
    behind = root_of(page[2][at + 1:])
    return joined_roots(most, ahead, left), joined_roots(most, right, behind)

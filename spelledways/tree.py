"""A tree that changes: it keeps one root, which never does."""

from spelledways.keys import is_key, need_key, need_range
from spelledways.pagecuts import root_with, root_without
from spelledways.pages import EMPTY, depth, entries, has, look, need_most, scan
from spelledways.treewalks import without_range


class Tree:
    """The keys of a plain map with their things, in pages of at most `most`."""

    def __init__(self, most):
        need_most(most)
        self.most = most
        self._page = EMPTY

    def root(self):
        """The root of now."""
        return self._page

    def put(self, key, thing):
        """Give a key a thing; return whether the key was not there."""
        need_key(key)
        is_new = not has(self._page, key)
        self._page = root_with(self.most, self._page, key, thing)
        return is_new

    def take(self, key):
        """Take a key away, if it is there; return whether it was."""
        need_key(key)
        was_there = has(self._page, key)
        if was_there:
            self._page = root_without(self.most, self._page, key)
        return was_there

    def look(self, key):
        """The thing of a key, or None."""
        need_key(key)
        return look(self._page, key)

    def has(self, key):
        """Whether a key is there."""
        need_key(key)
        return has(self._page, key)

    def scan(self, low=None, high=None, *, limit=None):
        """The entries with keys in a range, ascending, the first `limit` ones alone if this is a number."""
        need_range((low, high))
        return scan(self._page, low, high, limit=limit)

    def take_range(self, low, high):
        """Take all keys in a range away; return how many there were."""
        need_range((low, high))
        many = len(scan(self._page, low, high))
        self._page = without_range(self.most, self._page, low, high)
        return many

    def depth(self):
        """The number of levels."""
        return depth(self._page)

    def __len__(self):
        return len(entries(self._page))

    def __contains__(self, key):
        return is_key(key) and has(self._page, key)

"""Keys, values, maps and ranges."""

from spelledways.errors import InvalidKey, InvalidRange, InvalidValue
from spelledways.plain import is_tuple_of, is_whole

KEY_SIGNS = "0123456789_abcdefghijklmnopqrstuvwxyz"
TEXT_SIGNS = " _-.:/0123456789abcdefghijklmnopqrstuvwxyzABCDEFGHIJKLMNOPQRSTUVWXYZ"
MOST_KEY_SIGNS = 16
MOST_TEXT_SIGNS = 32
GREATEST_VALUE = 1000000000000000000


def first_wrong_sign(text, signs, most):
    """The place of the first sign that is none of these, or stands behind the most; None without one."""
    for at, sign in enumerate(text):
        if at == most or sign not in signs:
            return at
    return None


def key_fault(value):
    """What InvalidKey tells of a value; None for a key."""
    if not isinstance(value, str) or value == "":
        return -1
    return first_wrong_sign(value, KEY_SIGNS, MOST_KEY_SIGNS)


def value_fault(value):
    """What InvalidValue tells of a thing; None for a value."""
    if isinstance(value, str):
        return first_wrong_sign(value, TEXT_SIGNS, MOST_TEXT_SIGNS)
    if is_whole(value) and -GREATEST_VALUE <= value <= GREATEST_VALUE:
        return None
    return -1


def map_fault(value):
    """What InvalidValue tells of what should be a map; None for a map."""
    if not isinstance(value, tuple):
        return -1
    for at, entry in enumerate(value):
        if not is_entry(entry):
            return at
        if at > 0 and entry[0] <= value[at - 1][0]:
            return at
    return None


def is_key(value):
    """Whether a value is a key."""
    return key_fault(value) is None


def is_value(value):
    """Whether a value is what a key may have."""
    return value_fault(value) is None


def is_entry(value):
    """Whether a value is a pair of a key and a value."""
    return is_tuple_of(value, 2) and is_key(value[0]) and is_value(value[1])


def is_map(value):
    """Whether a value is a tuple of entries with ascending keys."""
    return map_fault(value) is None


def need_key(value):
    """Raise InvalidKey unless a value is a key."""
    at = key_fault(value)
    if at is not None:
        raise InvalidKey(at)


def need_value(value):
    """Raise InvalidValue unless a value is what a key may have."""
    at = value_fault(value)
    if at is not None:
        raise InvalidValue(at)


def need_map(value):
    """Raise InvalidValue unless a value is a map."""
    at = map_fault(value)
    if at is not None:
        raise InvalidValue(at)


def need_range(value):
    """Raise InvalidRange unless a value is a pair of ends, each a key or None."""
    if not is_tuple_of(value, 2):
        raise InvalidRange(-1)
    for at, end in enumerate(value):
        if end is not None and not is_key(end):
            raise InvalidRange(at)


def in_range(bounds, key):
    """Whether a key lies in a range."""
    low, high = bounds
    return (low is None or low <= key) and (high is None or key <= high)


def is_empty_range(bounds):
    """Whether no key lies in a range."""
    low, high = bounds
    return low is not None and high is not None and low > high


def greater_low(one, other):
    """The low that leaves out what either leaves out."""
    if one is None or other is None:
        return other if one is None else one
    return max(one, other)


def lesser_high(one, other):
    """The high that leaves out what either leaves out."""
    if one is None or other is None:
        return other if one is None else one
    return min(one, other)


def meets(bounds, other):
    """Whether some key lies in both ranges."""
    # Ends are keys themselves, so what is common is empty only if its ends are the wrong way round.
    return not is_empty_range((greater_low(bounds[0], other[0]), lesser_high(bounds[1], other[1])))


def cover(bounds, other):
    """The least range with all keys of both."""
    if is_empty_range(bounds):
        return other
    if is_empty_range(other):
        return bounds
    low = None if bounds[0] is None or other[0] is None else min(bounds[0], other[0])
    high = None if bounds[1] is None or other[1] is None else max(bounds[1], other[1])
    return low, high


def entries_in(entries, bounds):
    """The entries of a map whose keys lie in a range."""
    return tuple([entry for entry in entries if in_range(bounds, entry[0])])


def value_in(entries, key):
    """The value of a key in a map, or None."""
    for entry in entries:
        if entry[0] == key:
            return entry[1]
    return None


def put_in_map(entries, key, value):
    """The map with this value for the key; None takes the key away."""
    ahead = [entry for entry in entries if entry[0] < key]
    behind = [entry for entry in entries if entry[0] > key]
    here = [] if value is None else [(key, value)]
    return tuple(ahead + here + behind)


def map_of(pairs):
    """The map that the empty one becomes by pairs of a key and a value or None, in their order."""
    entries = ()
    for key, value in pairs:
        entries = put_in_map(entries, key, value)
    return entries


def writes_to(entries, others):
    """The pairs of a key and a value or None, as few as can be, that lead from one map to another, ascending."""
    ahead = {key: value for key, value in entries}
    behind = {key: value for key, value in others}
    keys = sorted(set(list(ahead) + list(behind)))
    return tuple([(key, behind.get(key)) for key in keys if ahead.get(key) != behind.get(key)])

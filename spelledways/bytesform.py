"""Things told as octets, and read back: each has just one form."""

from spelledways.errors import InvalidOctets, NoName
from spelledways.keys import GREATEST_VALUE, KEY_SIGNS, MOST_KEY_SIGNS, MOST_TEXT_SIGNS, TEXT_SIGNS

MOST_NUMBER_OCTETS = 9


def codes_of(text):
    """The codes of the signs of a text."""
    return tuple([ord(sign) for sign in text])


def sign_at(octets, at, signs):
    """The one of these signs whose code stands at a place; None if none does."""
    if at >= len(octets):
        return None
    for sign in signs:
        if ord(sign) == octets[at]:
            return sign
    return None


def put_number(number):
    """Figures by 128, the lowest first, each but the last with 128 added."""
    figures = []
    while number >= 128:
        figures.append(number % 128 + 128)
        number = number // 128
    figures.append(number)
    return tuple(figures)


def get_number(octets, at):
    """The number at a place, and the place behind it."""
    number = 0
    worth = 1
    for here in range(at, min(at + MOST_NUMBER_OCTETS, len(octets))):
        octet = octets[here]
        number = number + octet % 128 * worth
        worth = worth * 128
        if octet == 0 and here > at:
            raise InvalidOctets(at)
        if octet < 128:
            return number, here + 1
    raise InvalidOctets(at)


def put_integer(integer):
    """The number 2 n, or, below 0, -2 n - 1."""
    return put_number(2 * integer if integer >= 0 else -2 * integer - 1)


def get_integer(octets, at):
    """The integer at a place, and the place behind it."""
    number, behind = get_number(octets, at)
    if number % 2 == 0:
        return number // 2, behind
    return -(number + 1) // 2, behind


def put_numbers(numbers):
    """How many, then the numbers."""
    octets = list(put_number(len(numbers)))
    for number in numbers:
        octets.extend(put_number(number))
    return tuple(octets)


def get_numbers(octets, at):
    """The tuple of numbers at a place, and the place behind it."""
    many, here = get_number(octets, at)
    numbers = []
    for _ in range(many):
        number, here = get_number(octets, here)
        numbers.append(number)
    return tuple(numbers), here


def put_key(key):
    """The codes of the signs, then 0."""
    return codes_of(key) + (0,)


def get_key(octets, at):
    """The key at a place, and the place behind it."""
    signs = []
    here = at
    while here < len(octets) and octets[here] != 0:
        sign = sign_at(octets, here, KEY_SIGNS)
        if sign is None or len(signs) == MOST_KEY_SIGNS:
            raise InvalidOctets(at)
        signs.append(sign)
        here += 1
    if here == len(octets) or not signs:
        raise InvalidOctets(at)
    return "".join(signs), here + 1


def put_text(text):
    """How many signs, then their codes."""
    return put_number(len(text)) + codes_of(text)


def get_text(octets, at):
    """The text at a place, and the place behind it."""
    many, start = get_number(octets, at)
    if many > MOST_TEXT_SIGNS:
        raise InvalidOctets(at)
    signs = []
    for here in range(start, start + many):
        sign = sign_at(octets, here, TEXT_SIGNS)
        if sign is None:
            raise InvalidOctets(here)
        signs.append(sign)
    return "".join(signs), start + many


def put_value(value):
    """0 for None; 1 and an integer; 2 and a text."""
    if value is None:
        return (0,)
    if isinstance(value, str):
        return (2,) + put_text(value)
    return (1,) + put_integer(value)


def get_value(octets, at):
    """The value, or None, at a place, and the place behind it."""
    if at >= len(octets) or octets[at] > 2:
        raise InvalidOctets(at)
    if octets[at] == 0:
        return None, at + 1
    if octets[at] == 2:
        return get_text(octets, at + 1)
    integer, behind = get_integer(octets, at + 1)
    if integer < -GREATEST_VALUE or integer > GREATEST_VALUE:
        raise InvalidOctets(at + 1)
    return integer, behind


def put_writes(pairs):
    """How many, then the key and the value of each."""
    octets = list(put_number(len(pairs)))
    for key, value in pairs:
        octets.extend(put_key(key))
        octets.extend(put_value(value))
    return tuple(octets)


def get_pairs(octets, at, may_erase):
    """The pairs of keys and values at a place, and the place behind them; None as a value just if it may."""
    many, here = get_number(octets, at)
    pairs = []
    for _ in range(many):
        key, place = get_key(octets, here)
        if pairs and key <= pairs[-1][0]:
            raise InvalidOctets(here)
        value, here = get_value(octets, place)
        if value is None and not may_erase:
            raise InvalidOctets(place)
        pairs.append((key, value))
    return tuple(pairs), here


def get_writes(octets, at):
    """The writes at a place, and the place behind them."""
    return get_pairs(octets, at, True)


def put_entries(entries):
    """A map has the form of writes."""
    return put_writes(entries)


def get_entries(octets, at):
    """The map at a place, and the place behind it."""
    return get_pairs(octets, at, False)


def put_end(end):
    """0 for no bound; 1 and a key."""
    return (0,) if end is None else (1,) + put_key(end)


def get_end(octets, at):
    """The end of a range at a place, and the place behind it."""
    if at >= len(octets) or octets[at] > 1:
        raise InvalidOctets(at)
    if octets[at] == 0:
        return None, at + 1
    return get_key(octets, at + 1)


def put_range(bounds):
    """The low end, then the high one."""
    return put_end(bounds[0]) + put_end(bounds[1])


def get_range(octets, at):
    """The range at a place, and the place behind it."""
    low, here = get_end(octets, at)
    high, behind = get_end(octets, here)
    return (low, high), behind


READERS = {
    "number": get_number,
    "integer": get_integer,
    "numbers": get_numbers,
    "key": get_key,
    "text": get_text,
    "value": get_value,
    "writes": get_writes,
    "entries": get_entries,
    "range": get_range,
}


def read_whole(word, octets):
    """The thing of a kind that octets tell from begin to end."""
    if not isinstance(word, str) or word not in READERS:
        raise NoName(word)
    reader = READERS[word]
    thing, behind = reader(octets, 0)
    if behind < len(octets):
        raise InvalidOctets(behind)
    return thing

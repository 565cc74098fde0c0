import itertools
import random
import unittest

from spelledways import bytesform
from spelledways.bytesform import (get_entries, get_integer, get_key, get_number, get_numbers, get_range, get_text,
                                   get_value, get_writes, put_entries, put_integer, put_key, put_number, put_numbers,
                                   put_range, put_text, put_value, put_writes, read_whole)
from spelledways.errors import InvalidOctets, NoName
from tests.common import Case, odd_values

KINDS = ("number", "integer", "numbers", "key", "text", "value", "writes", "entries", "range")
KEY_SIGNS = "0123456789_abcdefghijklmnopqrstuvwxyz"
TEXT_SIGNS = KEY_SIGNS + " -.:/" + "ABCDEFGHIJKLMNOPQRSTUVWXYZ"
LIMIT = 10 ** 18


def put(word, thing):
    return getattr(bytesform, "put_" + word)(thing)


def get(word, octets, at):
    return getattr(bytesform, "get_" + word)(octets, at)


def thing_of(rng, word):
    """Some thing of a kind."""
    if word == "number":
        return rng.choice([rng.randrange(128 ** rng.randint(0, 9) + 1) % 2 ** 63, 2 ** 63 - 1, 0, 127, 128])
    if word == "integer":
        return rng.choice([rng.randrange(-2 ** 62, 2 ** 62), rng.randint(-300, 300), 2 ** 62 - 1, -2 ** 62])
    if word == "numbers":
        return tuple(thing_of(rng, "number") for _ in range(rng.choice([0, 1, 2, 5, 120])))
    if word == "key":
        return "".join(rng.choice(KEY_SIGNS) for _ in range(rng.choice([1, 2, 3, 16])))
    if word == "text":
        return "".join(rng.choice(TEXT_SIGNS) for _ in range(rng.choice([0, 1, 2, 3, 32])))
    if word == "value":
        whole = rng.choice([0, LIMIT, -LIMIT, rng.randint(-LIMIT, LIMIT), rng.randint(-99, 99)])
        return rng.choice([None, whole, thing_of(rng, "text")])
    if word == "range":
        return tuple(rng.choice([None, thing_of(rng, "key")]) for _ in range(2))
    keys = sorted({thing_of(rng, "key") for _ in range(rng.choice([0, 1, 2, 5, 30]))})
    values = [thing_of(rng, "value") for _ in keys]
    if word == "entries":
        values = [0 if value is None else value for value in values]
    return tuple(zip(keys, values))


class PutTest(Case):
    def test_numbers_around_each_power_of_128(self):
        for power in range(10):
            for number in (128 ** power - 1, 128 ** power, 128 ** power + 1):
                if number < 2 ** 63:
                    octets = put_number(number)
                    self.assertEqual(sum(octet % 128 * 128 ** at for at, octet in enumerate(octets)), number)
                    self.assertEqual([octet >= 128 for octet in octets], [True] * (len(octets) - 1) + [False])
                    self.assertEqual(len(octets), max(1, -(-number.bit_length() // 7)))
                    self.same(get_number(octets, 0), (number, len(octets)))
        self.same(put_number(0), (0,))
        self.same(put_number(2 ** 63 - 1), (255,) * 8 + (127,))
        self.same(put_number(300), (172, 2))

    def test_integers(self):
        for integer, number in ((0, 0), (1, 2), (-1, 1), (-2, 3), (63, 126), (64, 128), (-64, 127), (-65, 129),
                                (2 ** 62 - 1, 2 ** 63 - 2), (-2 ** 62, 2 ** 63 - 1)):
            self.same(put_integer(integer), put_number(number))
            self.same(get_integer(put_number(number), 0), (integer, len(put_number(number))))

    def test_the_table(self):
        self.same(put_numbers(()), (0,))
        self.same(put_numbers((5, 128)), (2, 5, 128, 1))
        self.same(put_numbers((0,) * 200), (200, 1) + (0,) * 200)
        self.same(put_key("a1_"), (97, 49, 95, 0))
        self.same(put_text(""), (0,))
        self.same(put_text("Z /"), (3, 90, 32, 47))
        self.same(put_value(None), (0,))
        self.same(put_value(-3), (1, 5))
        self.same(put_value(""), (2, 0))
        self.same(put_value("hi"), (2, 2, 104, 105))
        self.same(put_writes((("a", -1), ("b", None))), (2, 97, 0, 1, 1, 98, 0, 0))
        self.same(put_entries((("a", -1), ("b", "x"))), (2, 97, 0, 1, 1, 98, 0, 2, 1, 120))
        self.same(put_entries(()), (0,))
        self.same(put_range((None, None)), (0, 0))
        self.same(put_range(("b", None)), (1, 98, 0, 0))
        self.same(put_range((None, "b")), (0, 1, 98, 0))
        self.same(put_range(("b", "a")), (1, 98, 0, 1, 97, 0))

    def test_parameters(self):
        self.same(put_number(number=1), (1,))
        self.same(put_integer(integer=1), (2,))
        self.same(put_numbers(numbers=(1,)), (1, 1))
        self.same(put_key(key="a"), (97, 0))
        self.same(put_text(text="a"), (1, 97))
        self.same(put_value(value=None), (0,))
        self.same(put_writes(pairs=()), (0,))
        self.same(put_entries(entries=()), (0,))
        self.same(put_range(bounds=(None, None)), (0, 0))
        for word in KINDS:
            reader = getattr(bytesform, "get_" + word)
            octets = (9,) + put(word, {"number": 1, "integer": 1, "key": "a", "text": "", "value": 2,
                                       "range": (None, None)}.get(word, ()))
            self.assertEqual(reader(octets=octets, at=1)[1], len(octets))
        self.same(read_whole(word="number", octets=(1,)), 1)


class GetTest(Case):
    def test_what_is_put_is_got(self):
        rng = random.Random(7)
        for word in KINDS:
            for _ in range(150):
                thing = thing_of(rng, word)
                octets = put(word, thing)
                self.assertTrue(all(type(octet) is int and 0 <= octet < 256 for octet in octets))
                ahead = tuple(rng.randrange(256) for _ in range(rng.choice([0, 1, 9])))
                behind = tuple(rng.choice([0, 1, 255, 97]) for _ in range(rng.choice([0, 1, 9])))
                self.same(get(word, ahead + octets + behind, len(ahead)), (thing, len(ahead) + len(octets)))
                self.same(read_whole(word, octets), thing)
                if behind:
                    self.told(InvalidOctets, len(octets), read_whole, word, octets + behind)

    def test_octets_that_end_too_early_are_wrong(self):
        rng = random.Random(8)
        for word in KINDS:
            for _ in range(40):
                octets = put(word, thing_of(rng, word))
                for many in range(len(octets)):
                    with self.assertRaises(InvalidOctets) as held:
                        get(word, octets[:many], 0)
                    self.assertTrue(0 <= held.exception.at <= many)
                    with self.assertRaises(InvalidOctets) as again:
                        get(word, (1, 2, 3) + octets[:many], 3)
                    self.assertEqual(again.exception.at, held.exception.at + 3)

    def test_what_is_got_has_just_one_form(self):
        some = (0, 1, 2, 3, 48, 95, 97, 98, 122, 127, 128, 129, 255)
        for many in range(5):
            for octets in itertools.product(some[:13 if many < 4 else 8], repeat=many):
                for word in KINDS:
                    try:
                        thing, behind = get(word, octets, 0)
                    except InvalidOctets as wrong:
                        self.assertTrue(0 <= wrong.at <= many)
                        continue
                    self.assertEqual(put(word, thing), octets[:behind])

    def test_no_octets_begin_those_of_another_thing(self):
        rng = random.Random(9)
        for word in KINDS:
            told = sorted({put(word, thing_of(rng, word)) for _ in range(200)})
            for one, other in zip(told, told[1:]):
                self.assertNotEqual(other[:len(one)], one)

    def test_keys_and_their_octets_have_one_order(self):
        rng = random.Random(10)
        some = [thing_of(rng, "key") for _ in range(300)] + ["a", "a0", "a_", "aa", "b"]
        self.assertEqual([put_key(key) for key in sorted(some)], sorted(put_key(key) for key in some))

    def test_wrong_places(self):
        key17, text33 = (97,) * 17 + (0,), (33,) + (97,) * 33
        cases = [
            ("number", (), 0, 0), ("number", (1,), 1, 1), ("number", (128,), 0, 0), ("number", (5, 128), 1, 1),
            ("number", (128, 0), 0, 0), ("number", (200, 128, 0), 0, 0), ("number", (128,) * 9 + (1,), 0, 0),
            ("number", (255,) * 9, 0, 0), ("number", (128,) * 8 + (0,), 0, 0), ("number", (7, 128, 128, 0), 1, 1),
            ("integer", (), 0, 0), ("integer", (0, 128), 1, 1), ("integer", (129, 0), 0, 0),
            ("numbers", (), 0, 0), ("numbers", (1,), 0, 1), ("numbers", (2, 5), 0, 2), ("numbers", (2, 5, 128), 0, 2),
            ("numbers", (3, 5, 128, 0, 1), 0, 2), ("numbers", (128, 0), 0, 0), ("numbers", (255,) * 8 + (127, 0), 0, 10),
            ("key", (), 0, 0), ("key", (0,), 0, 0), ("key", (97,), 0, 0), ("key", (5, 97, 65, 0), 1, 1), ("key", key17, 0, 0),
            ("key", (97,) * 16, 0, 0), ("key", (97, 32, 0), 0, 0), ("key", (97, 200, 0), 0, 0), ("key", (1, 0), 1, 1),
            ("text", (), 0, 0), ("text", text33, 0, 0), ("text", (1,), 0, 1), ("text", (2, 97), 0, 2),
            ("text", (2, 97, 33), 0, 2), ("text", (3, 97, 33, 33), 0, 2), ("text", (128, 0), 0, 0), ("text", (128, 1), 0, 0),
            ("text", (255,) * 8 + (127,), 0, 0), ("text", (1, 10), 0, 1), ("text", (1, 37), 0, 1), ("text", (0, 1, 255), 1, 2),
            ("value", (), 0, 0), ("value", (3,), 0, 0), ("value", (255, 1), 0, 0), ("value", (1,), 0, 1), ("value", (2,), 0, 1),
            ("value", (1, 128), 0, 1), ("value", (1,) + put_integer(LIMIT + 1), 0, 1),
            ("value", (1,) + put_integer(-LIMIT - 1), 0, 1), ("value", (9, 1) + put_integer(2 ** 62 - 1), 1, 2),
            ("value", (2, 33), 0, 1), ("value", (2, 1), 0, 2), ("value", (2, 1, 37), 0, 2),
            ("writes", (), 0, 0), ("writes", (1,), 0, 1), ("writes", (1, 97), 0, 1), ("writes", (1, 97, 0), 0, 3),
            ("writes", (1, 97, 0, 3), 0, 3), ("writes", (2, 97, 0, 0, 97, 0, 0), 0, 4),
            ("writes", (2, 98, 0, 0, 97, 0, 9), 0, 4), ("writes", (2, 97, 0, 0, 98, 0, 9), 0, 6), ("writes", (2, 97, 0, 0), 0, 4),
            ("writes", (2, 97, 0, 0, 0), 0, 4), ("writes", (1, 97, 0, 2, 1, 33), 0, 5), ("writes", (128, 0), 0, 0),
            ("entries", (1, 97, 0, 0), 0, 3), ("entries", (2, 97, 0, 1, 0, 98, 0, 0), 0, 7), ("entries", (1, 97, 0), 0, 3),
            ("entries", (2, 97, 0, 1, 0, 97, 0, 0), 0, 5), ("entries", (1, 97, 0, 1, 128), 0, 4), ("entries", (), 0, 0),
            ("range", (), 0, 0), ("range", (0,), 0, 1), ("range", (2, 0), 0, 0), ("range", (0, 2), 0, 1), ("range", (1,), 0, 1),
            ("range", (1, 0), 0, 1), ("range", (1, 97, 0), 0, 3), ("range", (1, 97, 0, 1, 65, 0), 0, 4), ("range", (7, 0, 1), 1, 3),
            ("range", (1,) + key17 + (0,), 0, 1), ("range", (255, 0), 0, 0),
        ]
        for word, octets, start, at in cases:
            with self.subTest(word=word, octets=octets, start=start):
                self.told(InvalidOctets, at, get, word, octets, start)
                if start == 0:
                    self.told(InvalidOctets, at, read_whole, word, octets)

    def test_bounds_of_values_are_right(self):
        for value in (LIMIT, -LIMIT):
            self.same(get_value(put_value(value), 0), (value, 10))
        for text in ("x" * 32, ""):
            self.same(get_text((9,) + put_text(text), 1), (text, 2 + len(text)))
        self.same(get_key((97,) * 16 + (0,), 0), ("a" * 16, 17))
        self.same(get_numbers((0, 5), 0), ((), 1))
        self.same(get_writes((1, 97, 0, 0), 0), ((("a", None),), 4))
        self.same(get_entries((1, 97, 0, 2, 0), 0), ((("a", ""),), 5))
        self.same(get_range((1, 98, 0, 1, 97, 0), 0), (("b", "a"), 6))

    def test_no_kind(self):
        for word in odd_values() + ["Number", "num", "octets", "get_number", "a"]:
            with self.assertRaises(NoName) as held:
                read_whole(word, (300, "x"))
            self.assertIs(held.exception.name, word)

    def test_octets_that_are_left(self):
        self.told(InvalidOctets, 1, read_whole, "number", (5, 5))
        self.told(InvalidOctets, 3, read_whole, "value", (2, 1, 97, 0))
        self.told(InvalidOctets, 0, read_whole, "number", (128, 0, 5))


if __name__ == "__main__":
    unittest.main()

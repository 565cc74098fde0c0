import random
import unittest

from spelledways.errors import InvalidSize, Refused
from spelledways.sums import check_sum, get_frame, put_frame, read_frames
from tests.common import Case

MODULUS = 2 ** 32 - 5


def plain_sum(octets):
    number = 1
    for octet in octets:
        number = number * 256 + octet
    return number % MODULUS


class FramesTest(Case):
    def test_check_sums(self):
        rng = random.Random(3)
        for octets in ((), (0,), (255, 255), (0, 0, 0, 0), (255,) * 4, (255, 255, 255, 251), (0, 0, 0, 5), (1, 2, 3)):
            self.same(check_sum(octets), plain_sum(octets))
        for _ in range(50):
            octets = tuple(rng.randrange(256) for _ in range(rng.randrange(60)))
            self.same(check_sum(octets=octets), plain_sum(octets))

    def test_frames(self):
        for many in (0, 1, 2, 255, 256, 257, 1000, 65535):
            body = tuple(at * 7 % 256 for at in range(many))
            head = (many // 256, many % 256, (65535 - many) // 256, (65535 - many) % 256)
            total = check_sum(head + body)
            tail = tuple(total // 256 ** place % 256 for place in (3, 2, 1, 0))
            self.assertTrue(put_frame(body) == head + body + tail)
            self.assertTrue(get_frame((9, 9) + put_frame(body) + (1,), 2) == (body, 2 + many + 8))
            self.assertIs(type(get_frame(put_frame(body), 0)[0]), tuple)

    def test_a_body_that_is_too_long(self):
        for many in (65536, 66000):
            self.told(InvalidSize, "body", put_frame, (0,) * many)
            self.told(InvalidSize, "body", put_frame, body=(0,) * many)

    def test_refusals_in_their_order(self):
        frame = put_frame((1, 2, 3))
        for many in range(4):
            self.told(Refused, "cut", get_frame, (7, 7, 7, 7)[:many], 0)
            self.told(Refused, "cut", get_frame, frame + frame[:many], len(frame))
        self.told(Refused, "broken", get_frame, (0, 3, 255, 253), 0)
        self.told(Refused, "broken", get_frame, (0, 3, 255, 251, 1, 2, 3, 0, 0, 0, 0), 0)
        self.told(Refused, "cut", get_frame, (0, 3, 255, 252), 0)
        for many in range(4, len(frame)):
            self.told(Refused, "cut", get_frame, frame[:many], 0)
        self.told(Refused, "broken", get_frame, frame[:-1] + (frame[-1] ^ 1,), 0)
        self.told(Refused, "cut", get_frame, frame[:4] + (9, 9, 9) + frame[7:-1], 0)
        self.told(Refused, "cut", get_frame, octets=(), at=0)

    def test_frames_are_read(self):
        self.same(read_frames(()), ((), 0, "whole"))
        self.same(read_frames((0, 0)), ((), 0, "cut"))
        self.same(read_frames((0, 0, 0, 0)), ((), 0, "broken"))
        two = put_frame((1,)) + put_frame(())
        self.same(read_frames(octets=two), (((1,), ()), 17, "whole"))
        self.same(read_frames(two + (0, 0, 0, 0)), (((1,), ()), 17, "broken"))
        self.same(read_frames(two + (0,)), (((1,), ()), 17, "cut"))

    def test_each_cut(self):
        bodies = ((1, 2), (), (0,) * 5, (255,), (3,) * 300)
        ends = [0]
        octets = ()
        for body in bodies:
            octets = octets + put_frame(body)
            ends.append(len(octets))
        for many in range(len(octets) + 1):
            whole = [end for end in ends if end <= many]
            word = "whole" if many in ends else "cut"
            self.same(read_frames(octets[:many]), (bodies[:len(whole) - 1], whole[-1], word))

    def look_at_change(self, ahead, frame, changed):
        bodies, end, word = read_frames(ahead + changed + put_frame((4,)))
        self.assertEqual((bodies, end, word), (((8, 8),), len(ahead), "broken"))
        with self.assertRaises(Refused) as held:
            get_frame(changed, 0)
        self.assertEqual(held.exception.word, "broken")

    def test_each_changed_octet(self):
        ahead = put_frame((8, 8))
        for body in ((), (7,), (255, 0, 128)):
            frame = put_frame(body)
            for at in range(len(frame)):
                for octet in range(256):
                    if octet != frame[at]:
                        self.look_at_change(ahead, frame, frame[:at] + (octet,) + frame[at + 1:])

    def test_each_pair_of_neighbours(self):
        frame = put_frame((7,))
        octets = [(one, other) for one in range(256) for other in range(256)]
        for at in range(len(frame) - 1):
            ahead, behind, here = frame[:at], frame[at + 2:], frame[at:at + 2]
            words = {self.word_of(ahead + pair + behind) for pair in octets if pair != here}
            self.assertEqual(words, {"broken"}, at)

    def word_of(self, octets):
        try:
            return get_frame(octets, 0)
        except Refused as refusal:
            return refusal.word

    def test_changed_neighbours(self):
        rng = random.Random(4)
        ahead = put_frame((8, 8))
        for body in ((), (7,), (255, 0, 128), (0, 0, 0, 0, 0), tuple(range(40))):
            frame = put_frame(body)
            for at in range(len(frame) - 1):
                pairs = [(frame[at] ^ 1, frame[at + 1] ^ 1), (255 - frame[at], 255 - frame[at + 1]),
                         ((frame[at] + 1) % 256, (frame[at + 1] - 1) % 256), (frame[at + 1], frame[at])]
                pairs += [(rng.randrange(256), rng.randrange(256)) for _ in range(150)]
                for pair in pairs:
                    if pair != frame[at:at + 2]:
                        self.look_at_change(ahead, frame, frame[:at] + pair + frame[at + 2:])


if __name__ == "__main__":
    unittest.main()

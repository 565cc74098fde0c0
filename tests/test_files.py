import random
import time

from spelledways.errors import InvalidSize
from spelledways.files import Files, is_disk
from tests.common import Case, odd_values


def random_octets(rng, most=4):
    return tuple(rng.randrange(256) for _ in range(rng.randint(0, most)))


class DiskTest(Case):
    def test_disks(self):
        for value in (((), (), ()), ((0, 255), (), (1,)), ((), (), (5,) * 6000)):
            self.assertIs(is_disk(value), True)
        for value in ([(), (), ()], ((), ()), ((), (), (), ()), ([], (), ()), ((), (), [1]), ((256,), (), ()), ((), (-1,), ()),
                      ((), (), (True,)), ((), (), (None,)), ((), (), "a"), ((), (), ("1",)), (None, (), ()), ((), ((1,),), ())):
            self.assertIs(is_disk(value), False)
        for value in odd_values():
            self.assertIs(is_disk(value), False)
            self.assertIs(is_disk(value=((), (), value)), value == ())
            self.assertIs(is_disk(((), (value,), ())), False)


class FilesTest(Case):
    def look_at(self, files, states):
        """The files beside the lists of all states that a cut may leave of each."""
        self.same(files.disk(), tuple(rows[-1] for rows in states))
        self.same(tuple(files.octets_of(place) for place in range(3)), files.disk())
        self.same(files.choices(), tuple(len(rows) for rows in states))
        for place in range(3):
            for number, octets in enumerate(states[place]):
                numbers = [0, 0, 0]
                numbers[place] = number
                self.same(files.cut(numbers)[place], octets)

    def test_beside_lists_of_states(self):
        rng = random.Random(211)
        for _ in range(60):
            start = (random_octets(rng), random_octets(rng), random_octets(rng))
            files, states = Files(start), [[octets] for octets in start]
            for _ in range(25):
                place = rng.randrange(3)
                choice = rng.random()
                if choice < 0.5:
                    octets = random_octets(rng)
                    self.assertIsNone(files.add(place, octets))
                    for octet in octets:
                        states[place].append(states[place][-1] + (octet,))
                elif choice < 0.85:
                    size = rng.randint(0, 6)
                    self.assertIsNone(files.keep(place, size))
                    if size < len(states[place][-1]):
                        states[place].append(states[place][-1][:size])
                else:
                    self.assertIsNone(files.sync(place))
                    states[place] = states[place][-1:]
                self.look_at(files, states)
            numbers = tuple(rng.randrange(len(rows)) for rows in states)
            wanted = tuple(rows[number] for rows, number in zip(states, numbers))
            self.same(files.cut(numbers), wanted)
            self.same(files.cut(numbers=list(numbers)), wanted)
            self.look_at(files, states)

    def test_edges(self):
        start = ((1, 2), (), (3,))
        files = Files(start=start)
        self.assertIs(files.start, start)
        self.same((files.choices(), files.disk()), ((1, 1, 1), start))
        files.keep(place=0, size=2)
        files.keep(0, 9)
        files.add(place=1, octets=())
        files.sync(place=2)
        self.same((files.choices(), files.cut((0, 0, 0)), files.octets_of(place=0)), ((1, 1, 1), start, (1, 2)))
        files.keep(0, 1)
        files.add(0, (7,))
        files.keep(0, 0)
        self.same([files.cut((number, 0, 0))[0] for number in range(4)], [(1, 2), (1,), (1, 7), ()])
        files.sync(0)
        self.same((files.choices(), files.cut((0, 0, 0))), ((1, 1, 1), ((), (), (3,))))

    def test_wrong_cuts(self):
        files = Files(((), (1,), ()))
        files.add(0, (1, 2))
        files.keep(1, 0)
        self.same(files.cut((2, 1, 0)), ((1, 2), (), ()))
        for numbers in odd_values() + [(0, 0), (0, 0, 0, 0), (3, 0, 0), (0, 2, 0), (0, 0, 1), (-1, 0, 0), (0, 0, -1), (0, True, 0), (False, 0, 0),
                                       (None, 0, 0), ("0", 0, 0), "000", [0, 0], [3, 0, 0], ((0,), 0, 0), {0: 1}]:
            self.told(InvalidSize, "cut", files.cut, numbers)
        self.same((files.choices(), files.disk()), ((3, 2, 1), ((1, 2), (), ())))

    def test_the_greatest_in_good_time(self):
        started = time.time()
        files = Files(((), (), (1,) * 6000))
        for at in range(60):
            files.add(at % 3, (at,) * 300)
            files.keep(at % 3, 5000 if at % 3 == 2 else 100)
        for at in range(0, files.choices()[0], 500):
            self.assertIs(is_disk(files.cut((at, at, at))), True)
        self.assertLess(time.time() - started, 2)

import random

from spelledways.watchers import all_effects, effect_of, put_effect
from tests.common import Case

PAIRS = [(one, other) for one in "abc" for other in "abc"]


def random_pairs(rng):
    return tuple(sorted(rng.sample(PAIRS, rng.randint(0, 9))))


class EffectsTest(Case):
    def test_there_and_back(self):
        rng = random.Random(221)
        for _ in range(200):
            lots = [random_pairs(rng) for _ in range(rng.randint(1, 7))]
            effects = [effect_of(one, other) for one, other in zip(lots, lots[1:])]
            for one, other, effect in zip(lots, lots[1:], effects):
                self.same(effect, (tuple(sorted(set(other) - set(one))), tuple(sorted(set(one) - set(other)))))
                self.same(put_effect(one, effect), other)
                self.same(put_effect(other, effect[::-1]), one)
            self.same(all_effects(rng.choice([list, tuple])(effects)), effect_of(lots[0], lots[-1]))

    def test_words_that_go_back_and_forth(self):
        came, went = ((("a", "a"),), ()), ((), (("a", "a"),))
        self.same(all_effects(()), ((), ()))
        self.same(all_effects(effects=(came, went)), ((), ()))
        self.same(all_effects((went, came)), ((), ()))
        self.same(all_effects((came, went, came)), came)
        self.same(all_effects((went, came, went, came, went)), went)
        self.same(effect_of(pairs=(), others=()), ((), ()))
        self.same(put_effect(pairs=(("b", "b"),), effect=came), (("a", "a"), ("b", "b")))
        self.same(effect_of([("a", "b"), ("b", "b")], [("b", "b"), ("c", "a")]), ((("c", "a"),), (("a", "b"),)))

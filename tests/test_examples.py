"""The worked examples of the document, section by section, as it writes them; and those of the README."""

import doctest
import os
import unittest

HERE = os.path.dirname(os.path.abspath(__file__))

SECTION_1 = r'''
    >>> from spelledways.store import Store
    >>> store = Store()
    >>> store.change((("line", ("a", "bus", "b"), 2), ("line", ("c", "bus", "b"), 3)))
    1
    >>> question = ("row", (("one", "bus", 1), ("one", "bus", -1)))
    >>> store.ask(question)
    (('a', 'a'), ('a', 'c'), ('c', 'a'), ('c', 'c'))
    >>> store.walk(("a", question, "c"))
    ('a', ((('a', 'bus', 'b'), 1), (('c', 'bus', 'b'), -1)))
'''

SECTION_3 = r'''
    >>> from spelledways.bytesform import get_value, put_key, put_number, put_writes, read_whole
    >>> from spelledways.keys import cover, map_of, meets, put_in_map
    >>> from spelledways.sums import check_sum, put_frame, read_frames
    >>> map_of((("b", 1), ("a", "x y"), ("b", None))), put_in_map((("a", 1),), "a", 2)
    ((('a', 'x y'),), (('a', 2),))
    >>> meets((None, "c"), ("d", None)), cover((None, "c"), ("d", "f"))
    (False, (None, 'f'))
    >>> put_number(300), put_key("a1"), put_writes((("a", -1), ("b", None)))
    ((172, 2), (97, 49, 0), (2, 97, 0, 1, 1, 98, 0, 0))
    >>> get_value((9, 2, 2, 104, 105, 7), 1), read_whole("numbers", (2, 5, 128, 1))
    (('hi', 5), (5, 128))
    >>> check_sum((255, 255)), put_frame((7,))
    (131071, (0, 1, 255, 254, 7, 2, 0, 3, 7))
    >>> read_frames(put_frame((7,)) + (0, 0, 255)), read_frames(put_frame(()) + (0, 0, 0, 0))
    ((((7,),), 9, 'cut'), (((),), 8, 'broken'))
'''

SECTION_5 = r'''
    >>> from spelledways.freeing import Keeper, costs, holds, kept
    >>> from spelledways.versions import spans
    >>> spans(((1, "a"), (3, "b"))), kept(((1, "a"), (3, None), (4, "c"), (6, None)), (3, 4)), kept(((2, None),), ())
    (((1, 2), (3, None)), ((4, 'c'), (6, None)), ())
    >>> keeper = Keeper()
    >>> keeper.commit((("x", 1), ("y", 1))), keeper.begin(), keeper.commit((("x", 2),)), keeper.begin()
    ((1, ()), 1, (2, ()), 2)
    >>> keeper.commit((("x", None),)), holds(keeper, 1), keeper.read(1, "x"), keeper.scan(2, None, None)
    ((3, ()), (('x', (1, 1)),), 1, (('x', 2), ('y', 1)))
    >>> costs(keeper, 2), keeper.close(2), keeper.close(1), keeper.versions.rows()
    ((('x', (2, 2)),), (('x', (2, 2)),), (('x', (1, 1)), ('x', (3, None))), (('y', ((1, 1),)),))
'''

SECTION_6 = r'''
    >>> from spelledways.graphs import all_done, EMPTY
    >>> from spelledways.lines import map_of_graph
    >>> graph = all_done(EMPTY, (("line", ("a", "road", "b"), 5), ("node", "c")))
    >>> graph, map_of_graph(graph)
    ((('a', 'b', 'c'), ((('a', 'road', 'b'), 5),)), (('_b_road_a', 5), ('a', 0), ('a_road_b', 5), ('b', 0), ('c', 0)))
'''

SECTION_7 = r'''
    >>> from spelledways.least import fewest_paper, least_machine
    >>> from spelledways.questiontext import question_text, read_question
    >>> from spelledways.spelling import always_same, missing_word, parting_word, same_words
    >>> one, ride = ("one", "bus", 1), read_question("[*bus+ bus+]")
    >>> machine = least_machine(ride, ("bus",))
    >>> machine.many, machine.steps, machine.ends
    (2, ((0, ('bus', 1), 1), (1, ('bus', 1), 1)), (1,))
    >>> fewest_paper(ride, ("bus",))
    (((), (('bus', 1),)), ((('bus', 1),), ()), ((0, 1, ()),))
    >>> missing_word(ride, one, ("bus",)), same_words(ride, ("some", one), ("bus",)), question_text(("times", ("any", -1), 2, 5))
    ((('bus', 1), ('bus', 1)), True, '<2,5>_-')
    >>> same_words(("any", 1), one, ("bus",)), always_same(("any", 1), one), parting_word(("any", 1), one, ("0", "bus"))
    (True, False, (('0', 1),))
'''

SECTION_8 = r'''
    >>> from spelledways.search import distances, walk_for
    >>> graph = (("a", "b", "c"), ((("a", "x", "b"), 5), (("b", "x", "c"), 1), (("c", "y", "a"), 0)))
    >>> around = ("row", (("star", ("one", "x", 1)), ("one", "y", 1)))
    >>> distances(graph, around)
    (('a', 'a', 3), ('b', 'a', 2), ('c', 'a', 1))
    >>> walk_for(graph, (None, around, "a")), walk_for(graph, ("a", around, "b"))
    (('c', ((('c', 'y', 'a'), 1),)), None)
    >>> from spelledways.shut import check_shut, shut_set
    >>> shut_set(graph, ("a", ("one", "x", 1), "c")), check_shut(graph, ("a", ("one", "x", 1), "c"), (("a", 0),))
    ((('a', 0), ('b', 1)), False)
    >>> from spelledways.counts import count_walks, total
    >>> from spelledways.prices import cheapest, trades
    >>> ask = ("a", ("star", ("any", 1)), "a")
    >>> count_walks(graph, ask, 6), total(graph, ask), total(graph, (None, around, None)), trades(graph, ("a", around, "a"))
    (1, None, 3, ((3, 6),))
    >>> cheapest(graph, ("a", ("star", ("any", -1)), "c"))
    (0, ('a', ((('c', 'y', 'a'), -1),)))
'''

SECTION_9 = r'''
    >>> from spelledways.log import Journal
    >>> from spelledways.recovery import mend, recover
    >>> journal = Journal(((), (), ()))
    >>> journal.write((("a", 1),)), journal.write((("a", None), ("b", "x"))), journal.choices(), journal.sure()
    (1, 2, (1, 1, 33), 0)
    >>> [recover(journal.cut((0, 0, steps)))[:2] for steps in (0, 13, 14, 32)]
    [(0, ()), (0, ()), (1, (('a', 1),)), (2, (('b', 'x'),))]
    >>> journal.image(), journal.write((("c", 0),)), journal.sure(), journal.stamp
    (None, 3, 2, 3)
    >>> recover(journal.cut((0, 0, 0))), [len(octets) for octets in journal.disk()]
    ((2, (('b', 'x'),), 'whole'), [15, 0, 14])
'''

SECTION_10 = r'''
    >>> from spelledways.distances import doubtful, field
    >>> graph = (("a", "b", "c"), ((("a", "x", "b"), 1), (("a", "y", "c"), 1), (("b", "x", "c"), 1)))
    >>> way = ("star", ("any", 1))
    >>> rows = field(graph, way, "a")
    >>> rows, doubtful(graph, way, rows, (("a", "y", "c"),))
    (((('a', 0), 0), (('b', 0), 1), (('c', 0), 1)), (('c', 0),))
'''

SECTION_12 = r'''
    >>> from spelledways.folding import fold_of, line_graph
    >>> line_graph((("a", 1), ("b", -1)))
    (('0', '1', '2'), ((('0', 'a', '1'), 1), (('2', 'b', '1'), 1)))
    >>> fold_of((("a", 1), ("a", -1), ("a", 1)), (("a", 1),)), fold_of((("a", 1),), (("a", 1), ("a", 1)))
    ((0, 1, 0, 1), None)
    >>> from spelledways.within import is_within, loose_word
    >>> one, row = ("one", "a", 1), ("row", (("one", "a", 1), ("one", "a", -1), ("one", "a", 1)))
    >>> is_within(one, row), loose_word(row, one)
    (True, (('a', 1), ('a', -1), ('a', 1)))
'''

SECTION_13 = r'''
    >>> from spelledways.forests import count_rows, ring_of_places, row_at
    >>> from spelledways.joins import rows_by, sieve, sizes_by, strikes
    >>> from spelledways.patterns import keeps, lacking, row_walks, rows
    >>> lines = ((("a", "k", "b"), 1), (("b", "k", "a"), 1), (("b", "k", "c"), 1))
    >>> graph, step = (("a", "b", "c"), lines), ("one", "k", 1)
    >>> pattern = (2, ((0, step, 1), (1, step, "c")))
    >>> rows(graph, pattern), sizes_by(graph, pattern, (0, 1)), rows_by(graph, pattern, (1, 0))
    ((('a', 'b'),), (3, 1), (('a', 'b'),))
    >>> row_walks(graph, pattern, ("a", "b"))[1], keeps(graph, pattern, ("b", "a")), lacking(graph, pattern, ("b", "a"))[0]
    (('b', ((('b', 'k', 'c'), 1),)), False, 1)
    >>> sieve(graph, pattern), len(strikes(graph, pattern)), count_rows(graph, (2, ((0, step, 1),)))
    ((('a',), ('b',)), 4, 3)
    >>> ring = (3, ((0, step, 1), (1, step, 2), (2, step, 0)))
    >>> ring_of_places(ring), count_rows(graph, ring), row_at(graph, (2, ((0, step, 1),)), 2), sieve(graph, ring)
    ((0, 1, 2), 0, ('b', 'c'), (('a', 'b'), ('a', 'b'), ('a', 'b')))
'''

SECTION_14 = r'''
    >>> from spelledways.store import Store
    >>> store, question = Store(), ("row", (("one", "bus", 1), ("one", "bus", -1)))
    >>> store.change((("line", ("a", "bus", "b"), 2), ("line", ("c", "bus", "b"), 3)))
    1
    >>> store.keep("two", question), store.watch("two"), store.look(), store.undo(), store.heard(1)
    ((('a', 'a'), ('a', 'c'), ('c', 'a'), ('c', 'c')), 1, 1, True, ((2, (), (('a', 'a'), ('a', 'c'), ('c', 'a'), ('c', 'c'))),))
    >>> store.graph(), store.shut(("a", question, None)), store.ask(question, 1)[1], store.costs(1)[0]
    (((), ()), (), ('a', 'c'), ('_b_bus_a', (1, 2)))
    >>> store.forbid("back", question), store.broken_by((("line", ("d", "bus", "e"), 0),))
    (None, (('back', ('d', ((('d', 'bus', 'e'), 1), (('d', 'bus', 'e'), -1)))),))
    >>> from spelledways.running import behind_cut, meaning, run, step
    >>> meaning(store)[0][0], behind_cut(meaning(store), 1) == meaning(Store(store.cut((0, 0, store.choices()[2] - 2))))
    (0, True)
    >>> step(meaning(store), ("redo",))[1], run((("change", (("node", "a"),)), ("cut", (0, 0, 3)), ("graph", None)))[0]
    (('Refused', 'back'), (('told', 1), ('told', 0), ('told', ((), ()))))
'''

SECTION_15 = r'''
    >>> from spelledways.desk import call_text, Desk, read_call
    >>> read_call("change line a bus b 3 | node c"), call_text(("walk", ("a", ("star", ("any", 1)), None), 2))
    (('change', (('line', ('a', 'bus', 'b'), 3), ('node', 'c'))), 'walk @2 a _ *_+')
    >>> desk = Desk()
    >>> desk.say("change line a bus b 3"), desk.say("ask *bus+"), desk.why(("b", ("one", "bus", 1), None))[0]
    (('told', 1), ('told', (('a', 'a'), ('a', 'b'), ('b', 'b'))), 'shut')
'''


class ExamplesTest(unittest.TestCase):
    def look_at(self, text, many):
        told = doctest.DocTestParser().get_doctest(text, {}, "the document", None, 0)
        self.assertEqual(len(told.examples), many)
        self.assertEqual(doctest.DocTestRunner(verbose=False).run(told).failed, 0)

    def test_readme(self):
        with open(os.path.join(os.path.dirname(HERE), "README.md"), encoding="utf-8") as held:
            self.look_at(held.read(), 45)

    def test_whole_document(self):
        """As it stands now, where it is at hand: so no example is left out here."""
        path = os.path.join(os.path.dirname(os.path.dirname(HERE)), "shared", "DOC.md")
        if os.path.exists(path):
            with open(path, encoding="utf-8") as held:
                self.look_at(held.read(), 89)

    def test_section_1(self):
        self.look_at(SECTION_1, 6)

    def test_section_3(self):
        self.look_at(SECTION_3, 9)

    def test_section_5(self):
        self.look_at(SECTION_5, 7)

    def test_section_6(self):
        self.look_at(SECTION_6, 4)

    def test_section_7(self):
        self.look_at(SECTION_7, 9)

    def test_section_8(self):
        self.look_at(SECTION_8, 12)

    def test_section_9(self):
        self.look_at(SECTION_9, 7)

    def test_section_10(self):
        self.look_at(SECTION_10, 5)

    def test_section_12(self):
        self.look_at(SECTION_12, 6)

    def test_section_13(self):
        self.look_at(SECTION_13, 11)

    def test_section_14(self):
        self.look_at(SECTION_14, 9)

    def test_section_15(self):
        self.look_at(SECTION_15, 4)


if __name__ == "__main__":
    unittest.main()

"""The names, parameters and places of all that the document's interface lists."""

import importlib
import inspect
import os
import re
import unittest

HERE = os.path.dirname(os.path.abspath(__file__))

FUNCTIONS = {
    "keys": """is_key(value) is_value(value) is_entry(value) need_key(value) need_value(value) is_map(value)
        need_map(value) need_range(value) in_range(bounds,key) is_empty_range(bounds) meets(bounds,other)
        cover(bounds,other) entries_in(entries,bounds) value_in(entries,key) put_in_map(entries,key,value)
        map_of(pairs)""",
    "bytesform": """put_number(number) get_number(octets,at) put_integer(integer) get_integer(octets,at)
        put_numbers(numbers) get_numbers(octets,at) put_key(key) get_key(octets,at) put_text(text) get_text(octets,at)
        put_value(value) get_value(octets,at) put_writes(pairs) get_writes(octets,at) put_entries(entries)
        get_entries(octets,at) put_range(bounds) get_range(octets,at) read_whole(word,octets)""",
    "sums": "check_sum(octets) put_frame(body) get_frame(octets,at) read_frames(octets)",
    "pages": """half_of(most) is_root(most,value) depth(page) shape(page) entries(page) look(page,key) has(page,key)
        scan(page,low,high,*,limit=None) fewest(most,deep) greatest(most,deep) fresh(old,new)""",
    "treewalks": """first(page) last(page) after(page,key) before(page,key) built(most,entries) joined(most,left,right)
        parted(most,page,key) without_range(most,page,low,high) differences(one,other) changed(most,page,rows)
        turned(rows) added(first,second)""",
    "versions": """seen(row,stamp) value_at(row,stamp) spans(row) need_writes(value) versions_from(rows,now,stamps)""",
    "freeing": "kept(row,stamps) free(versions,stamps) holds(keeper,stamp) costs(keeper,stamp)",
    "graphs": """is_node(value) is_kind(value) is_price(value) is_line(value) need_line(value) is_graph(value)
        need_graph(value) is_deed(value) need_deed(value) need_batch(value) done(graph,deed) all_done(graph,batch)
        kinds_of(graph) line_price(graph,line) lines_at(graph,node,kind,way) next_nodes(graph,node,kind,way)
        steps_at(graph,node) turned_graph(graph) part_graph(graph,nodes) renamed_graph(graph,names)
        between(graph,other) backward(graph,batch)""",
    "lines": """map_of_graph(graph) line_of_key(key) graph_of_map(value) is_graph_map(value) writes_of_deed(graph,deed)
        writes_of_batch(graph,batch) line_range(node,kind,way) tree_of_graph(most,graph)
        lines_in_tree(page,node,kind,way)""",
    "waysof": """step_ends(step) need_walk(graph,value) is_walk(graph,value) walk_nodes(walk) walk_end(walk)
        walk_word(walk) walk_price(graph,walk) walk_key(walk) turned_word(word) turned_walk(walk)
        joined_walks(one,other) part_walk(walk,low,high) walks_of(graph,node,word) ends_of(graph,nodes,word)""",
    "formulas": """is_question(value) need_question(value) need_kinds(value) letters_over(kinds) kinds_in(question)
        question_size(question) question_spread(question) spells_empty(question) spells(question,word)
        turned_question(question) strange_kind(kinds) wide_kinds(one,other)""",
    "machines": "is_machine(value) is_single(machine) machine_of(question,kinds)",
    "least": """least(machine) least_machine(question,kinds) machine_both(one,other) machine_either(one,other)
        machine_but(one,other) machine_apart(one,other) turned_machine(machine) state_heads(machine) state_goes(machine)
        state_tails(machine) fewest_paper(question,kinds) check_fewest(question,kinds,value)""",
    "places": """need_ask(value) machine_for(graph,question) starts(graph,ask) goals(graph,ask) moves(graph,question,place)
        place_behind(graph,question,walk) answers_ask(graph,ask,value)""",
    "search": """reached(graph,ask) distances(graph,question) answers_of(graph,ask) answers(graph,question)
        distance(graph,ask) walk_for(graph,ask)""",
    "shut": "check_shut(graph,ask,value) shut_set(graph,ask) widest_shut(graph,ask)",
    "records": "put_record(stamp,writes) put_image(stamp,entries) get_image(octets) records_of(octets)",
    "recovery": "base_of(disk) recover(disk) mend(disk)",
    "distances": """kept_machine(question) read_kind(question,kind) moves_from(graph,question,place)
        moves_into(graph,question,place) field(graph,question,node) check_field(graph,question,node,value)
        doubtful(graph,question,rows,lines) mended(graph,question,rows,places) nearer(graph,question,rows,lines)""",
    "graphtext": "graph_text(graph) read_graph(value) batch_text(batch) read_batch(value) walk_text(walk) read_walk(value)",
    "files": "is_disk(value)",
    "pins": """graph_of(pins,name) asked(pins,name,question) effect_between(pins,one,other,question)
        added_effects(first,second) cost(pins,names) held_by(pins,key) values_kept(rows,stamps,now)
        thinned(rows,stamps,now,many)""",
    "questiontext": "question_text(question) read_question(text)",
    "counts": """count_walks(graph,ask,steps) walk_at(graph,ask,steps,number) number_of(graph,ask,walk)
        first_walks(graph,ask,many) total(graph,ask) round_of(graph,ask) check_round(graph,ask,value)""",
    "asof": """readable_stamps(versions) map_at(versions,stamp) writes_between(versions,one,other) runs(versions,key)
        written(entries,writes) over(first,second) undo(entries,writes) needed(entries,writes)""",
    "merging": """clashes(base,one,other) merged(base,one,other) merged_graphs(base,one,other) rebased(pins,name,writes)
        back(pins,name)""",
    "folding": """line_graph(word) is_fold(word,onto,value) fold_of(word,onto) folds(word,onto) folded_word(question,onto)
        front_of(question,kinds,word)""",
    "within": """loose_word(question,other) is_within(question,other) is_same(question,other) parting_graph(question,other)
        check_loose(question,other,value) within_paper(question,other) check_within(question,other,value)
        lean_either(parts)""",
    "patterns": """need_pattern(value) keeps(graph,pattern,row) rows(graph,pattern) row_walks(graph,pattern,row)
        lacking(graph,pattern,row) check_row(graph,pattern,row,value) check_lacking(graph,pattern,row,value)""",
    "spelling": """first_word(question,kinds) missing_word(one,other,kinds) parting_word(one,other,kinds)
        same_words(one,other,kinds) always_same(one,other) count_words(question,kinds,length)
        word_at(question,kinds,length,number) total_words(question,kinds) question_of(machine)""",
    "relations": "related(graph,question)",
    "prices": """cheapest(graph,ask) heights_for(graph,ask) check_heights(graph,ask,price,value)
        cheapest_within(graph,ask,steps) trades(graph,ask)""",
    "joins": """rows_by(graph,pattern,order) sizes_by(graph,pattern,order) sieve(graph,pattern) strikes(graph,pattern)
        check_strikes(graph,pattern,value)""",
    "forests": """ring_of_places(pattern) count_rows(graph,pattern) row_at(graph,pattern,number)
        row_number(graph,pattern,row)""",
    "running": "meaning(store) behind_cut(state,stamp) step(state,call) run(calls)",
    "checker": "sheet_holds(word,question,value) contrary(word) sheet_for(word,question)",
    "desk": "call_text(call) read_call(value) run_lines(lines)",
    "watchers": "effect_of(pairs,others) put_effect(pairs,effect) all_effects(effects)",
}

METHODS = {
    ("tree", "Tree"): """__init__(self,most) root(self) put(self,key,thing) take(self,key) look(self,key)
        has(self,key) scan(self,low=None,high=None,*,limit=None) take_range(self,low,high) depth(self)""",
    ("versions", "Versions"): """__init__(self) how_many(self) add(self,writes) row(self,key) rows(self)
        readable(self,stamp) version_at(self,key,stamp) read(self,key,stamp) scan(self,low,high,stamp)""",
    ("snapshots", "Snapshots"): """__init__(self) begin(self,stamp) stamp_of(self,number) close(self,number)
        live(self) holders(self,stamp) last_within(self,first,last)""",
    ("freeing", "Keeper"): """__init__(self) begin(self,stamp=None) commit(self,writes) close(self,number)
        read(self,number,key) scan(self,number,low,high)""",
    ("machines", "Machine"): """__init__(self,kinds,many,steps,start,ends) next_states(self,state,letter)
        next_state(self,state,letter) states_behind(self,word) accepts(self,word) __eq__(self,other)""",
    ("files", "Files"): """__init__(self,start) add(self,place,octets) keep(self,place,size) sync(self,place)
        octets_of(self,place) disk(self) choices(self) cut(self,numbers)""",
    ("log", "Journal"): """__init__(self,start) write(self,pairs) sync(self) draw(self) settle(self) image(self) sure(self)
        choices(self) cut(self,numbers) disk(self)""",
    ("kept", "Kept"): """__init__(self,graph,question) graph(self) pairs(self) touched(self) change(self,batch)
        far(self,one,other) walk(self,one,other) paper(self,one,other)""",
    ("pins", "Pins"): """__init__(self) commit(self,writes) pin(self,name,stamp=None) unpin(self,name) stamp_of(self,name)
        names(self) read(self,name,key) scan(self,name,low=None,high=None)""",
    ("store", "Store"): """__init__(self,start=((),(),())) graph(self,number=None) broken_by(self,batch) change(self,batch)
        undo(self) redo(self) look(self) leave(self,number) costs(self,number) ask(self,question,number=None)
        walk(self,ask,number=None) shut(self,ask,number=None) keep(self,name,question) kept(self,name)
        kept_walk(self,name,one,other) let_go(self,name) names(self) forbid(self,name,question) allow(self,name) rules(self)
        watch(self,name) heard(self,number) unwatch(self,number) sync(self) draw(self) settle(self) sure(self) choices(self)
        cut(self,numbers) disk(self)""",
    ("desk", "Desk"): """__init__(self,start=((),(),())) say(self,line) said(self) why(self,ask,number=None)
        shown(self,question,number=None)""",
}

ERRORS = """StoreError InvalidKey InvalidValue InvalidRange InvalidOctets InvalidGraph InvalidLine InvalidWalk
    InvalidQuestion InvalidAsk InvalidPattern InvalidDeed InvalidText InvalidSize InvalidCommand Refused NoName"""


def module_of(name):
    return importlib.import_module("spelledways." + name)


class InterfaceTest(unittest.TestCase):
    def look_at(self, name, told, home, where):
        found = vars(home).get(told.partition("(")[0])
        self.assertTrue(inspect.isfunction(found), told)
        self.assertEqual(found.__module__, "spelledways." + name, told)
        self.assertEqual(found.__name__ + str(inspect.signature(found)).replace(" ", ""), told, where)

    def test_functions(self):
        for name, told in FUNCTIONS.items():
            for one in told.split():
                self.look_at(name, one, module_of(name), name)

    def test_methods_stand_in_the_class_itself(self):
        for (name, word), told in METHODS.items():
            found = vars(module_of(name))[word]
            self.assertTrue(inspect.isclass(found))
            self.assertEqual(found.__module__, "spelledways." + name)
            for one in told.split():
                self.look_at(name, one, found, word)
        tree = vars(vars(module_of("tree"))["Tree"])
        self.assertIn("__len__", tree)
        self.assertIn("__contains__", tree)

    def test_errors(self):
        for word in ERRORS.split():
            self.assertEqual(vars(module_of("errors"))[word].__module__, "spelledways.errors")

    def test_each_name_of_the_document(self):
        """Where the document is at hand: each name that it lists stands in its file, each method in its class."""
        path = os.path.join(os.path.dirname(os.path.dirname(HERE)), "shared", "DOC.md")
        if not os.path.exists(path):
            return
        with open(path, encoding="utf-8") as held:
            rows = re.findall(r"(?m)^- `spelledways/(\w+)\.py`: (.*)$", held.read())
        self.assertEqual(len(rows), 44)
        for name, told in rows:
            home = vars(module_of(name))
            told = told.replace(", ", ",").replace(" (", "(")
            for word, methods in re.findall(r"class `(\w+)\(\.\.\)`\(([^)]*)\)", told):
                self.assertEqual(home[word].__module__, "spelledways." + name)
                for method in re.findall(r"`(\w+)`", methods):
                    special = {"len": "__len__", "in": "__contains__", "root": "root"}.get(method, method)
                    self.assertIn(special, vars(home[word]), (name, word))
            told = re.sub(r"class `\w+\(\.\.\)`\([^)]*\)", "", told)
            for word in re.findall(r"`(\w+)", told):
                self.assertIn(word, home, name)
                self.assertEqual(getattr(home[word], "__module__", "spelledways." + name), "spelledways." + name)

    def test_values(self):
        self.assertEqual(repr(module_of("pages").EMPTY), "('leaf', ())")
        self.assertEqual(repr(module_of("graphs").EMPTY), "((), ())")


if __name__ == "__main__":
    unittest.main()

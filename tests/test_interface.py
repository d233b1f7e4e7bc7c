"""Every function, class and method of the interface, in its file, with its parameters."""

import importlib
import inspect
import unittest

INTERFACE = {
    "bits": "is_integer(value) is_count(value) is_bit(value) is_name(value) is_letter(value,width) is_word(value,width)"
    " letters(width) says(kind,bits)",
    "circuits": "Circuit(inputs,gates=(),registers=(),outputs=())",
    "runs": "values(circuit,state,letter,stuck=None) step(circuit,state,letter,stuck=None)"
    " answer(circuit,word,state=None,stuck=None) states_along(circuit,word,state=None,stuck=None)"
    " told(circuit,wire,word,state=None,stuck=None)",
    "made": "marked(circuit,sign) beside(one,other) behind(one,other) joined(circuit,name,wire) renamed(circuit,names)"
    " with_gate(circuit,name,kind,sources) with_first(circuit,name,bit) with_outputs(circuit,outputs) trimmed(circuit)",
    "tables": "Table(order,rows,root) variable(order,name) constant(order,bit) held(table,name,bit) some(table,name)"
    " every(table,name) hangs_on(table) rises(table,name) can_be_exchanged(table,name,second) how_many(table)"
    " least_letter(table,bit) parting(one,other)",
    "gates": "table_of(circuit,wire,order=None,stuck=None) next_tables(circuit) is_table_of(circuit,wire,value)"
    " are_equal(circuit,wire,second) parting_of(circuit,wire,second) classes(circuit) fixed(circuit)"
    " step_parting(one,other) gates_of(table) without_copies(circuit)",
    "orders": "reordered(table,order) many(table) below(table,names,name) best_order(table) bounds(table)"
    " are_bounds(table,value)",
    "tangles": "Tangle(inputs,gates) look(tangle,letter)",
    "settling": "come_to(tangle,letter,standing) shortest_run(tangle,letter,standing) settles(tangle,letter,standing)"
    " rest(tangle,letter,standing) ranks(tangle,letter,standing) is_ranks(tangle,letter,standing,value)"
    " swing(tangle,letter,standing) two_rests(tangle,letter,standing) is_swing(tangle,letter,standing,value)"
    " are_two_rests(tangle,letter,standing,value) is_steady(tangle,letter,standing) loss(tangle,letter,standing)"
    " is_loss(tangle,letter,standing,value) is_plain(tangle) rests(tangle) odd_one(tangle)"
    " latch(tangle,letter,standing) miss(tangle,letter,standing) is_miss(tangle,letter,standing,value)",
    "machines": "Machine(width,out_width,rows)",
    "states": "states_of(circuit,stuck=None) machine_of(circuit,stuck=None) circuit_of(machine) paired(one,other)"
    " chained(one,other)",
    "alike": "are_alike(one,other) relation(one,other) is_relation(one,other,value) parting(one,other)"
    " is_parting(one,other,value) are_circuits_alike(one,other) rounds(machine) parting_states(machine,state,other)"
    " least(machine) needed(machine) need_paper(machine,number) is_need_paper(machine,number,value)"
    " stands_for(machine,other)",
    "patterns": "Pattern(width,goes) lies_within(one,other) fit_alike(one,other) within_table(one,other)"
    " word_alone(one,other) is_within_table(one,other,value)",
    "lasting": "can_last(pattern) is_lasting(pattern) lasting_places(pattern) end_ranks(pattern) lasting_part(pattern)"
    " is_lasting_places(pattern,value) is_end_ranks(pattern,value)",
    "maps": "keeps(circuit,ahead,behind) kept_table(circuit,ahead,behind) breaking_word(circuit,ahead,behind)"
    " is_kept_table(circuit,ahead,behind,value) is_breaking_word(circuit,ahead,behind,value) weakest(circuit,behind)"
    " weakest_table(circuit,behind) is_weakest_table(circuit,behind,pattern,value)",
    "strongest": "strongest(circuit,ahead) strongest_table(circuit,ahead) is_strongest_table(circuit,ahead,pattern,value)",
    "rings": "is_late(circuit) keeps_further(circuit,ahead,behind) further_table(circuit,ahead,behind)"
    " further_word(circuit,ahead,behind) is_further_table(circuit,ahead,behind,value)"
    " is_further_word(circuit,ahead,behind,value) ring(late,other) promise(late,other,ahead,behind)"
    " is_promise(late,other,ahead,behind,value) player(pattern,word,width) spoiler(circuit,ahead,behind)"
    " is_spoiler(circuit,ahead,behind,value)",
    "faults": "faults(circuit) shows_at(circuit,word,fault,other=None) showing(circuit,fault,other=None)"
    " hiding(circuit,fault,other=None) is_hiding(circuit,fault,other,value) hidden(circuit) classes(circuit)",
    "menus": "places_of(circuit,menu,some) is_cover(circuit,menu,some,value) fewest_tests(circuit,menu,some)"
    " tree_against(circuit,menu,some,number) is_tree_against(circuit,menu,some,number,value)"
    " telling_tree(circuit,menu,suspects) is_telling_tree(circuit,menu,suspects,value)"
    " least_depth(circuit,menu,suspects) stubborn(circuit,menu,suspects,number)"
    " is_stubborn(circuit,menu,suspects,number,value) joint_word(circuit,some) joint_paper(circuit,some)"
    " is_joint_paper(circuit,some,value)",
    "wirings": "Wiring(inputs,gates,outputs) answer_of(wiring,word) can_go(wiring,gate) gone(wiring,gate)"
    " circuit_of(wiring) beat_of(wiring) slowest_way(wiring) is_way(wiring,value) registers_on(wiring,way)"
    " delay_of(wiring,way)",
    "lags": "is_lags(wiring,value) is_item(wiring,beat,value) item_told(wiring,beat,item) sequence(wiring,lags)"
    " moved(wiring,lags) reaches(wiring,beat,lags) greatest_lags(wiring,beat) ring(wiring,beat)"
    " is_ring(wiring,beat,value) least_beat(wiring)",
    "fewest": "bits_by(wiring,lags) fewest_bits(wiring,beat) fewest_lags(wiring,beat) flow(wiring,beat)"
    " is_flow(wiring,beat,value) loss(wiring,beat,counts)",
    "resets": "led(machine,lot,word) meeting(machine,state,other) apart(machine) is_apart(machine,value) reset(machine)"
    " any_reset(machine) is_reset(machine,value) homing(machine) any_homing(machine) is_homing(machine,value)"
    " where(machine,word,answer) began(machine,word,answer)",
    "trees": "parted(machine,lot,letter) forgets(machine,lot,letter) found_out(machine,tree,state) tree(machine,lot)"
    " depth(machine,lot) stuck(machine,lot) deep(machine,lot,number) is_tree(machine,lot,value)"
    " is_stuck(machine,lot,value) is_deep(machine,lot,number,value)",
    "asked": "rows(machine,table) asked(machine,table) gap(machine,table) guess(machine,table) agree(one,other,words)"
    " asking(machine)",
    "boxes": "Frame(circuit,feeds,holes) put_in(frame,box) feeding(frame,box) stands(frame,box)"
    " alike_within(one,other,pattern) relation_within(one,other,pattern)"
    " is_relation_within(one,other,pattern,value) parting_within(one,other,pattern)",
    "feeds": "may_say(frame,box) may_stand(frame,box,other) clash(frame,box,other) is_enough(frame,box,lot)"
    " choice(frame,box,lot) conflict(frame,box,lot) is_choice(frame,box,lot,value) is_conflict(frame,box,lot,value)"
    " enough_lots(frame,box) fewest_feeds(frame,box) fewer_conflicts(frame,box) chosen_box(frame,box,lot)",
    "hands": "Game(circuit,ours,pattern,early=False) we_keep(game) whole_plan(game) whole_spoiler(game)"
    " is_plan(game,value) is_spoiler(game,value) count_at(game,node) played(game,plan,word)"
    " spoiled(game,spoiler,word) planned(game)",
    "texts": "written(thing) read(text) written_word(word) read_word(text)",
    "claims": "is_claim(value) is_true(claim) contrary(claim) paper_of(claim) is_paper(claim,value) things_at(word)",
    "bench": "Bench() tried(bench,action)",
    "commands": "words_of(command) is_change(command)",
}
METHODS = {
    "circuits.Circuit": "inputs() gates() registers() outputs() wires() first() kind(wire) sources(wire) uses(wire)"
    " cone(wire) sequence()",
    "tables.Table": "order() rows() says(letter) is_least() least()",
    "tangles.Tangle": "inputs() names() gates() standings() dues(letter,standing) wanting(letter,standing)"
    " turned(standing,gate) places(letter,standing,run)",
    "machines.Machine": "letters() rows() step(state,letter) answer(word) behind(word) come_to() begun(state) trimmed()",
    "patterns.Pattern": "goes() leads(place) place_of(word) least()",
    "wirings.Wiring": "inputs() outputs() gates() sources(gate) uses(wire)",
    "boxes.Frame": "feeds() holes()",
    "hands.Game": "ours() theirs() nodes() turned()",
    "bench.Bench": "names() notes() note(name,word,parts) claim(name) paper(name) look(name) renew(name) drop(name)"
    " undo() redo() log() do(command) do_all(commands)",
}
SIGNS = {
    "circuits.Circuit": "__len__ __contains__ __eq__ __repr__",
    "tables.Table": "__and__ __or__ __xor__ __invert__ __len__ __contains__ __eq__ __repr__",
    "tangles.Tangle": "__eq__ __repr__",
    "machines.Machine": "__len__ __eq__ __repr__",
    "patterns.Pattern": "__and__ __or__ __len__ __contains__ __eq__ __repr__",
    "wirings.Wiring": "__len__ __contains__ __eq__ __repr__",
    "boxes.Frame": "__eq__ __repr__",
    "hands.Game": "__eq__",
    "bench.Bench": "__getitem__ __setitem__ __contains__ __len__",
}
PROPERTIES = {
    "tables.Table": "root",
    "machines.Machine": "width out_width",
    "patterns.Pattern": "width",
    "wirings.Wiring": "bits",
    "boxes.Frame": "circuit",
    "hands.Game": "circuit pattern early",
}
STATIC = {
    "tangles.Tangle": "of(circuit)",
    "machines.Machine": "late(width)",
    "patterns.Pattern": "any_of(width) of_word(width,word)",
    "boxes.Frame": "bare(box)",
}


def parameters(call, skipped=0):
    told = []
    for name, parameter in list(inspect.signature(call).parameters.items())[skipped:]:
        default = "" if parameter.default is parameter.empty else "=%r" % (parameter.default,)
        told.append(name + default)
    return ",".join(told)


def class_of(path):
    file, name = path.split(".")
    return getattr(importlib.import_module("wirewords." + file), name)


class InterfaceTest(unittest.TestCase):
    def test_functions_and_classes(self):
        for file, text in INTERFACE.items():
            module = importlib.import_module("wirewords." + file)
            for told in text.split():
                name, _, rest = told.partition("(")
                with self.subTest(told):
                    found = getattr(module, name)
                    self.assertEqual(found.__module__, "wirewords." + file)
                    self.assertEqual(parameters(found), rest[:-1])

    def test_methods_stand_in_their_classes(self):
        for path, text in METHODS.items():
            for told in text.split():
                name, _, rest = told.partition("(")
                with self.subTest(path + "." + told):
                    self.assertEqual(parameters(vars(class_of(path))[name], 1), rest[:-1])
        for path, text in SIGNS.items():
            for name in text.split():
                self.assertIn(name, vars(class_of(path)))

    def test_properties_static_methods_and_values(self):
        for path, text in PROPERTIES.items():
            for name in text.split():
                self.assertIsInstance(vars(class_of(path))[name], property)
        for path, text in STATIC.items():
            for told in text.split():
                name, _, rest = told.partition("(")
                self.assertIsInstance(vars(class_of(path))[name], staticmethod)
                self.assertEqual(parameters(getattr(class_of(path), name)), rest[:-1])
        self.assertIsInstance(importlib.import_module("wirewords.bits").KINDS, dict)
        self.assertEqual(vars(class_of("machines.Machine"))["MOST_STATES"], 64)


if __name__ == "__main__":
    unittest.main()

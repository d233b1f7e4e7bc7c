"""Every function, class and method of the interface, in its file, with its parameters."""

import importlib
import inspect
import unittest

INTERFACE = {
    "bits": "is_integer(value) is_count(value) is_bit(value) is_name(value) is_letter(value,width) is_word(value,width)"
    " letters(width) says(kind,bits)",
    "circuits": "Circuit(inputs,gates=(),registers=(),outputs=())",
    "runs": "values(circuit,state,letter,stuck=None) step(circuit,state,letter,stuck=None)"
    " answer(circuit,word,state=None,stuck=None) states_along(circuit,word,state=None,stuck=None)"
    " told(circuit,wire,word,state=None,stuck=None)",
    "made": "marked(circuit,sign) beside(one,other) behind(one,other) joined(circuit,name,wire) renamed(circuit,names)"
    " with_gate(circuit,name,kind,sources) with_first(circuit,name,bit) with_outputs(circuit,outputs) trimmed(circuit)",
    "tables": "Table(order,rows,root) variable(order,name) constant(order,bit) held(table,name,bit) some(table,name)"
    " every(table,name) hangs_on(table) rises(table,name) can_be_exchanged(table,name,second) how_many(table)"
    " least_letter(table,bit) parting(one,other)",
    "gates": "table_of(circuit,wire,order=None,stuck=None) next_tables(circuit) is_table_of(circuit,wire,value)"
    " are_equal(circuit,wire,second) parting_of(circuit,wire,second) classes(circuit) fixed(circuit)"
    " step_parting(one,other) gates_of(table) without_copies(circuit)",
    "orders": "reordered(table,order) many(table) below(table,names,name) best_order(table) bounds(table)"
    " are_bounds(table,value)",
    "tangles": "Tangle(inputs,gates) look(tangle,letter)",
    "settling": "come_to(tangle,letter,standing) shortest_run(tangle,letter,standing) settles(tangle,letter,standing)"
    " rest(tangle,letter,standing) ranks(tangle,letter,standing) is_ranks(tangle,letter,standing,value)"
    " swing(tangle,letter,standing) two_rests(tangle,letter,standing) is_swing(tangle,letter,standing,value)"
    " are_two_rests(tangle,letter,standing,value) is_steady(tangle,letter,standing) loss(tangle,letter,standing)"
    " is_loss(tangle,letter,standing,value) is_plain(tangle) rests(tangle) odd_one(tangle)"
    " latch(tangle,letter,standing) miss(tangle,letter,standing) is_miss(tangle,letter,standing,value)",
}
METHODS = {
    "circuits.Circuit": "inputs() gates() registers() outputs() wires() first() kind(wire) sources(wire) uses(wire)"
    " cone(wire) sequence()",
    "tables.Table": "order() rows() says(letter) is_least() least()",
    "tangles.Tangle": "inputs() names() gates() standings() dues(letter,standing) wanting(letter,standing)"
    " turned(standing,gate) places(letter,standing,run)",
}
SIGNS = {
    "circuits.Circuit": "__len__ __contains__ __eq__ __repr__",
    "tables.Table": "__and__ __or__ __xor__ __invert__ __len__ __contains__ __eq__ __repr__",
    "tangles.Tangle": "__eq__ __repr__",
}


def parameters(call, skipped=0):
    told = []
    for name, parameter in list(inspect.signature(call).parameters.items())[skipped:]:
        default = "" if parameter.default is parameter.empty else "=%r" % (parameter.default,)
        told.append(name + default)
    return ",".join(told)


def class_of(path):
    file, name = path.split(".")
    return getattr(importlib.import_module("wirewords." + file), name)


class InterfaceTest(unittest.TestCase):
    def test_functions_and_classes(self):
        for file, text in INTERFACE.items():
            module = importlib.import_module("wirewords." + file)
            for told in text.split():
                name, _, rest = told.partition("(")
                with self.subTest(told):
                    found = getattr(module, name)
                    self.assertEqual(found.__module__, "wirewords." + file)
                    self.assertEqual(parameters(found), rest[:-1])

    def test_methods_stand_in_their_classes(self):
        for path, text in METHODS.items():
            for told in text.split():
                name, _, rest = told.partition("(")
                with self.subTest(path + "." + told):
                    self.assertEqual(parameters(vars(class_of(path))[name], 1), rest[:-1])
        for path, text in SIGNS.items():
            for name in text.split():
                self.assertIn(name, vars(class_of(path)))

    def test_properties_static_methods_and_values(self):
        self.assertIsInstance(vars(class_of("tables.Table"))["root"], property)
        self.assertIsInstance(vars(class_of("tangles.Tangle"))["of"], staticmethod)
        self.assertEqual(parameters(class_of("tangles.Tangle").of), "circuit")
        self.assertIsInstance(importlib.import_module("wirewords.bits").KINDS, dict)


if __name__ == "__main__":
    unittest.main()

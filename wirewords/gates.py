"""Tables of what the wires of circuits say, and what follows of them."""

from wirewords.checks import check_order_of, check_stuck, check_wire
from wirewords.circuits import MOST_INPUTS, Circuit
from wirewords.diagrams import combined, least_bits, variable_form
from wirewords.errors import OtherVariables, TooMany
from wirewords.made import trimmed
from wirewords.tables import MOST_ROWS, Table, table_of_form


def state_names(circuit):
    """The names of the registers, sorted."""
    return [row[0] for row in circuit.registers()]


def variables_of(circuit):
    """The variables of a circuit: its inputs, then its registers, sorted."""
    return circuit.inputs() + state_names(circuit)


def gates_ahead(circuit, wires):
    """The dict of the gates on which some wires hang through gates alone, with themselves."""
    met = {}
    todo = list(wires)
    while todo:
        wire = todo.pop()
        if wire not in met and circuit.kind(wire) not in ("input", "register"):
            met[wire] = True
            todo.extend(circuit.sources(wire))
    return met


def forms_of(circuit, wires, order, stuck=None):
    """The dict to least forms, in an order, from the variables, and from what some wires want."""
    forms = {name: variable_form(level) for level, name in enumerate(order)}
    if stuck is not None:
        forms[stuck[0]] = ((), stuck[1])
    wanted = gates_ahead(circuit, wires)
    for gate in circuit.sequence():
        if gate in wanted and (stuck is None or gate != stuck[0]):
            forms[gate] = combined(circuit.kind(gate), [forms[source] for source in circuit.sources(gate)])
            if len(forms[gate][0]) > MOST_ROWS:
                raise TooMany("rows", MOST_ROWS)
    return forms


def all_forms(circuit):
    """The dict from all wires to their least forms, in the circuit's own order."""
    return forms_of(circuit, circuit.wires(), variables_of(circuit))


def table_of(circuit, wire, order=None, stuck=None):
    """The table of what a wire says, perhaps with a wire stuck."""
    check_wire(circuit, wire)
    if order is not None:
        check_order_of(order, variables_of(circuit))
    check_stuck(circuit, stuck)
    chosen = variables_of(circuit) if order is None else list(order)
    return table_of_form(chosen, forms_of(circuit, [wire], chosen, stuck)[wire])


def next_tables(circuit):
    """The dict from the registers to the tables of their sources."""
    order = variables_of(circuit)
    rows = circuit.registers()
    forms = forms_of(circuit, [source for _, _, source in rows], order)
    return {name: table_of_form(order, forms[source]) for name, _, source in rows}


def is_table_of(circuit, wire, value):
    """Whether any value is a table, in any order of the circuit, that says what a wire says."""
    check_wire(circuit, wire)
    if not isinstance(value, Table) or sorted(value.order()) != sorted(variables_of(circuit)):
        return False
    return table_of(circuit, wire, value.order()) == value.least()


def are_equal(circuit, wire, second):
    """Whether two wires say the same in all states at all letters."""
    check_wire(circuit, wire)
    check_wire(circuit, second)
    forms = forms_of(circuit, [wire, second], variables_of(circuit))
    return forms[wire] == forms[second]


def least_parting(circuit, one, other):
    """The least tuple (state, letter) at which two forms say unlike bits; None."""
    inputs, states = len(circuit.inputs()), len(circuit.registers())
    # States are compared first, though registers stand behind inputs in the order.
    sequence = list(range(inputs, inputs + states)) + list(range(inputs))
    bits = least_bits(combined("xor", [one, other]), 1, sequence)
    return None if bits is None else (tuple(bits[:states]), tuple(bits[states:]))


def parting_of(circuit, wire, second):
    """The least tuple (state, letter) at which two wires say unlike bits; None."""
    check_wire(circuit, wire)
    check_wire(circuit, second)
    forms = forms_of(circuit, [wire, second], variables_of(circuit))
    return least_parting(circuit, forms[wire], forms[second])


def classes(circuit):
    """The sorted lists of wires that are equal to one another, sorted."""
    forms = all_forms(circuit)
    met = {}
    for wire in circuit.wires():
        met.setdefault(forms[wire], []).append(wire)
    return sorted(list(met.values()))


def fixed(circuit):
    """The dict from the wires that always say one bit to their bits."""
    forms = all_forms(circuit)
    return {wire: forms[wire][1] for wire in circuit.wires() if forms[wire][1] < 2}


def have_same_variables(one, other):
    """Whether two circuits have the same inputs, registers with first bits, and as many outputs."""
    if one.inputs() != other.inputs() or state_names(one) != state_names(other):
        return False
    return one.first() == other.first() and len(one.outputs()) == len(other.outputs())


def step_parting(one, other):
    """The least tuple (state, letter) at which outputs or next states are unlike; None."""
    if not have_same_variables(one, other):
        raise OtherVariables(one, other)
    ends = one.outputs() + [source for _, _, source in one.registers()]
    other_ends = other.outputs() + [source for _, _, source in other.registers()]
    forms = forms_of(one, ends, variables_of(one))
    other_forms = forms_of(other, other_ends, variables_of(other))
    found = [least_parting(one, forms[end], other_forms[twin]) for end, twin in zip(ends, other_ends)]
    return min([parting for parting in found if parting is not None], default=None)


def fresh_names(taken, many):
    """So many names that are not taken."""
    names = []
    number = 0
    while len(names) < many:
        if f"g{number}" not in taken:
            names.append(f"g{number}")
        number += 1
    return names


def gates_of(table):
    """A circuit without registers whose one output says what a table says of its inputs."""
    order = table.order()
    if len(order) > MOST_INPUTS:
        raise TooMany("inputs", MOST_INPUTS)
    least = table.least()
    names = fresh_names(order, len(least) + 2)
    gates = [(names[0], "low", []), (names[1], "high", [])]
    for at, (name, low, high) in enumerate(least.rows()):
        gates.append((names[at + 2], "pick", [name, names[high], names[low]]))
    return trimmed(Circuit(order, gates, [], [names[least.root]]))


def first_copies(circuit):
    """The dict from the wires to the first wire that is equal to each, gates in their sequence."""
    forms = all_forms(circuit)
    firsts = {}
    for wire in variables_of(circuit) + circuit.sequence():
        firsts.setdefault(forms[wire], wire)
    return {wire: firsts[forms[wire]] for wire in circuit.wires()}


def without_copies(circuit):
    """The circuit with the first of equal wires in the place of its copies."""
    firsts = first_copies(circuit)
    rows = [(gate, kind, [firsts[wire] for wire in sources]) for gate, kind, sources in circuit.gates()]
    registers = [(name, bit, firsts[source]) for name, bit, source in circuit.registers()]
    outputs = [firsts[wire] for wire in circuit.outputs()]
    whole = Circuit(circuit.inputs(), rows, registers, outputs)
    wanted = gates_ahead(whole, outputs + [source for _, _, source in registers])
    return Circuit(circuit.inputs(), [row for row in rows if row[0] in wanted], registers, outputs)

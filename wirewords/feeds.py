"""What boxes in a frame may say, and on which feeds their outputs have to hang."""

from wirewords.bits import all_bits, is_count, is_letter, is_list, number_of
from wirewords.boxes import check_fits
from wirewords.checks import check_number
from wirewords.circuits import Circuit
from wirewords.errors import HasRegisters
from wirewords.refusals import HangsOnHole, InvalidLot
from wirewords.states import Gatework
from wirewords.walks import Steps

MOST_FEEDS = 4
MOST_HOLES = 4


def check_no_registers(circuit):
    """Raise HasRegisters with the least register."""
    registers = circuit.registers()
    if registers:
        raise HasRegisters(registers[0][0])


def check_hanging(frame):
    """Raise HangsOnHole with the first feed that hangs on a hole."""
    holes = frame.holes()
    for at, wire in enumerate(frame.feeds()):
        cone = frame.circuit.cone(wire)
        if any([hole in cone for hole in holes]):
            raise HangsOnHole(at)


def check_each(frame, boxes):
    """Raise the errors of a frame and of boxes, each by itself."""
    check_no_registers(frame.circuit)
    for box in boxes:
        check_no_registers(box)
    check_hanging(frame)


def check_together(frame, boxes):
    """Raise the errors of boxes in a frame, and TooMany."""
    for box in boxes:
        check_fits(frame, box)
    check_number("feeds", frame.feeds(), MOST_FEEDS)
    check_number("holes", frame.holes(), MOST_HOLES)


def is_lot(frame, value):
    """Whether any value is a rising list of positions of feeds."""
    if not is_list(value) or not all([is_count(at) and at < len(frame.feeds()) for at in value]):
        return False
    return all([one < other for one, other in zip(value, value[1:])])


def check_choosing(frame, box, lot):
    """Raise the errors of a frame, a box and a lot."""
    check_each(frame, [box])
    if not is_lot(frame, lot):
        raise InvalidLot(lot)
    check_together(frame, [box])


def said_by_box(box):
    """The dict from all looks to what a box without registers says."""
    steps = Steps(box)
    return {look: steps.step((), look)[1] for look in all_bits(len(box.inputs()))}


class Views:
    """What the wires of a frame without registers say, by letters for the whole and by what a box says."""

    def __init__(self, frame):
        circuit, holes = frame.circuit, frame.holes()
        said = Steps(circuit).masks_in(())
        self._inputs = circuit.inputs()
        self._free = [name for name in self._inputs if name not in holes]
        self._holes = holes
        self._feeds = [said[wire] for wire in frame.feeds()]
        self._ends = [said[wire] for wire in circuit.outputs()]

    def letters(self):
        """The letters for the whole, sorted."""
        return all_bits(len(self._free))

    def number_at(self, letter, bits):
        """The number of the frame's letter that is made of a letter for the whole and of bits for the holes."""
        known = {name: bit for name, bit in zip(self._free + self._holes, letter + bits)}
        return number_of([known[name] for name in self._inputs])

    def look(self, letter):
        """What the feeds say at a letter for the whole; they hang on no hole."""
        at = self.number_at(letter, (0,) * len(self._holes))
        return tuple([mask >> at & 1 for mask in self._feeds])

    def ends(self, letter, bits):
        """What the frame's outputs say at a letter for the whole if a box says some bits."""
        at = self.number_at(letter, bits)
        return tuple([mask >> at & 1 for mask in self._ends])

    def allowed(self, box):
        """The dict from all looks to the sorted lists of the bits that may be said for what a box says."""
        said, every = said_by_box(box), all_bits(len(self._holes))
        told = {look: list(every) for look in said}
        for letter in self.letters():
            look = self.look(letter)
            right = self.ends(letter, said[look])
            told[look] = [bits for bits in told[look] if self.ends(letter, bits) == right]
        return told


def may_say(frame, box):
    """The dict from all looks to the sorted lists of what a box may say there."""
    check_each(frame, [box])
    check_together(frame, [box])
    return Views(frame).allowed(box)


def clash(frame, box, other):
    """The least letter for the whole at which the frame's outputs are unlike with two boxes; None."""
    check_each(frame, [box, other])
    check_together(frame, [box, other])
    views, said, heard = Views(frame), said_by_box(box), said_by_box(other)
    for letter in views.letters():
        look = views.look(letter)
        if views.ends(letter, said[look]) != views.ends(letter, heard[look]):
            return letter
    return None


def may_stand(frame, box, other):
    """Whether another box may stand for a box."""
    return clash(frame, box, other) is None


def at_positions(look, lot):
    """The bits of a look at some positions."""
    return tuple([look[at] for at in lot])


def in_all(told, looks, holes):
    """The sorted list of the bits that may be said at each of some looks."""
    return [bits for bits in all_bits(holes) if all([bits in told[look] for look in looks])]


def least_choice(told, lot, holes):
    """The least choice for a lot, and None; or None, and the looks at all of which nothing may be said."""
    chosen = {}
    for key in all_bits(len(lot)):
        looks = [look for look in told if at_positions(look, lot) == key]
        found = in_all(told, looks, holes)
        if not found:
            return None, looks
        chosen[key] = found[0]
    return chosen, None


def searched(frame, box, lot):
    """The least choice for a lot, or a conflict, as least_choice tells them."""
    check_choosing(frame, box, lot)
    return least_choice(Views(frame).allowed(box), lot, len(frame.holes()))


def is_enough(frame, box, lot):
    """Whether some box that may stand has outputs that hang on no inputs but those of a lot."""
    return searched(frame, box, lot)[1] is None


def choice(frame, box, lot):
    """The least choice for a lot; None."""
    return searched(frame, box, lot)[0]


def conflict(frame, box, lot):
    """A conflict for a lot; None."""
    return searched(frame, box, lot)[1]


def is_choice(frame, box, lot, value):
    """Whether any value is a choice for a lot."""
    check_choosing(frame, box, lot)
    if not isinstance(value, dict) or len(value) != 1 << len(lot):
        return False
    if not all([is_letter(key, len(lot)) and is_letter(value[key], len(frame.holes())) for key in value]):
        return False
    told = Views(frame).allowed(box)
    return all([value[at_positions(look, lot)] in told[look] for look in told])


def is_conflict(frame, box, lot, value):
    """Whether any value is a conflict for a lot."""
    check_choosing(frame, box, lot)
    if not is_list(value) or not all([is_letter(look, len(frame.feeds())) for look in value]):
        return False
    if len(set([at_positions(look, lot) for look in value])) > 1:
        return False
    return len(in_all(Views(frame).allowed(box), value, len(frame.holes()))) == 0


def lots_of(many):
    """All lots of so many feeds, shorter ones first, those of a length sorted."""
    lots = [[at for at, bit in enumerate(bits) if bit == 1] for bits in all_bits(many)]
    return sorted(lots, key=lambda lot: (len(lot), lot))


def least_lots(frame, box):
    """The lots that are enough, while none with a position less is, and what a box may say."""
    told, holes = Views(frame).allowed(box), len(frame.holes())
    enough = [lot for lot in lots_of(len(frame.feeds())) if least_choice(told, lot, holes)[1] is None]
    least = [
        lot for lot in enough if not any([[at for at in lot if at != left] in enough for left in lot])
    ]
    return least, told


def enough_lots(frame, box):
    """The lots that are enough, while none with a position less is, shorter ones first."""
    check_each(frame, [box])
    check_together(frame, [box])
    return least_lots(frame, box)[0]


def fewest_feeds(frame, box):
    """The fewest positions of a lot that is enough."""
    return len(enough_lots(frame, box)[0])


def fewer_conflicts(frame, box):
    """The dict from all lots with one position less than is enough, as tuples, to conflicts."""
    check_each(frame, [box])
    check_together(frame, [box])
    least, told = least_lots(frame, box)
    lots = [lot for lot in lots_of(len(frame.feeds())) if len(lot) == len(least[0]) - 1]
    return {tuple(lot): least_choice(told, lot, len(frame.holes()))[1] for lot in lots}


def chosen_box(frame, box, lot):
    """A box that says the least choice for a lot, its outputs hanging on no inputs but these; None."""
    chosen = choice(frame, box, lot)
    if chosen is None:
        return None
    inputs = [f"x{at}" for at in range(len(frame.feeds()))]
    work = Gatework([inputs[at] for at in lot])
    said = [chosen[key] for key in sorted(chosen)]
    outputs = [work.wire(tuple([bits[at] for bits in said])) for at in range(len(frame.holes()))]
    return Circuit(inputs, work.gates(), [], outputs)

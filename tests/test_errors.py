"""The errors: their families, their attributes, and that they can be made with any values."""

import inspect
import unittest

from wirewords import errors, refusals

FAMILIES = {"WireError": ValueError, "MissingError": LookupError, "StateError": RuntimeError,
            "LimitError": ArithmeticError}

ERRORS = {
    "WireError": "InvalidWidth(value), InvalidKind(value), InvalidBits(value), InvalidBit(value), InvalidName(value),"
    " InvalidNames(value), InvalidInputs(position), InvalidGates(position), InvalidRegisters(position),"
    " InvalidOutputs(position), InvalidSources(value), InvalidLetter(value), InvalidWord(value), InvalidState(value),"
    " InvalidFault(value), InvalidOrder(value), InvalidRows(position), InvalidPlace(value), InvalidNumber(value),"
    " InvalidStanding(value), InvalidRun(position), InvalidGoes(position), InvalidPattern(value), TooLong(name),"
    " GateRing(name)",
    "MissingError": "UnknownWire(value), UnknownVariable(value)",
    "StateError": "OtherWidth(one; other), OtherWidths(one; other), OtherOrders(one; other),"
    " OtherVariables(one; other), HasRegisters(name), NotLate(name), NotLasting(place), NotFitting(word)",
    "LimitError": "TooMany(what; limit)",
}
REFUSALS = {
    "WireError": "InvalidMenu(position), InvalidFaults(position), InvalidSuspects(position), InvalidDelays(name),"
    " InvalidWay(value), InvalidBeat(value), InvalidLags(value), InvalidItem(value), InvalidFlow(value),"
    " InvalidLot(value), InvalidAnswer(value), InvalidTable(value), InvalidWords(position), InvalidFeeds(position),"
    " InvalidHoles(position), InvalidHands(position), InvalidNode(value), InvalidPlan(value), InvalidThing(value),"
    " InvalidText(line), InvalidClaim(value), InvalidParts(position), InvalidCommand(value), BareRing(name)",
    "MissingError": "UnknownGate(value), UnknownName(value)",
    "StateError": "CannotGo(value), NotClosed(value), DoesNotFit(frame; box), HangsOnHole(position),"
    " TakenName(value), WrongThing(value), Lost(name), NothingToUndo(), NothingToRedo(), CommandFailed(position)",
}


def rows():
    for module, families in ((errors, ERRORS), (refusals, REFUSALS)):
        for family, text in families.items():
            for told in text.split(", "):
                name, _, rest = told.partition("(")
                yield module, family, name, rest[:-1].split("; ") if rest != ")" else []


class ErrorsTest(unittest.TestCase):
    def test_families(self):
        for name, base in FAMILIES.items():
            self.assertEqual(getattr(errors, name).__bases__, (base,))
            self.assertEqual(getattr(errors, name).__module__, "wirewords.errors")

    def test_each_is_of_its_family_alone_and_defined_in_its_file(self):
        for module, family, name, _ in rows():
            with self.subTest(name):
                error = getattr(module, name)
                self.assertEqual(error.__bases__, (getattr(errors, family),))
                self.assertEqual(error.__module__, module.__name__)

    def test_attributes_hold_the_very_values(self):
        for module, _, name, attributes in rows():
            error = getattr(module, name)
            for value in (None, object(), [1], True):
                with self.subTest(name):
                    values = [[value] for _ in attributes]
                    by_position = error(*values)
                    by_name = error(**dict(zip(attributes, values)))
                    for attribute, given in zip(attributes, values):
                        self.assertIs(getattr(by_position, attribute), given)
                        self.assertIs(getattr(by_name, attribute), given)

    def test_parameters(self):
        for module, _, name, attributes in rows():
            if attributes:
                told = list(inspect.signature(getattr(module, name).__init__).parameters)
                self.assertEqual(told, ["self"] + attributes)
                with self.assertRaises(TypeError):
                    getattr(module, name)()

    def test_nothing_else_is_an_error_there(self):
        names = {name for module, _, name, _ in rows() if module is errors} | set(FAMILIES)
        self.assertEqual(names, {name for name, what in vars(errors).items() if inspect.isclass(what)})
        names = {name for module, _, name, _ in rows() if module is refusals}
        own = {name for name, what in vars(refusals).items()
               if inspect.isclass(what) and what.__module__ == "wirewords.refusals"}
        self.assertEqual(names, own)


if __name__ == "__main__":
    unittest.main()

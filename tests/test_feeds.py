"""Points [93] and [94], wirewords/feeds.py; of point [4] "Exchanged or not"."""

import itertools

from tests.boxing import BOTH, EITHER, SHOWN, TELL, TURN, joint_answer, joint_parts, random_box, some_frames
from tests.helping import ODD, Case, letters_of
from tests.machining import FLIP, WAIT
from tests.papers import is_bits, is_listed, is_rising, some_variants, variants
from wirewords.boxes import Frame, put_in, stands
from wirewords.circuits import Circuit
from wirewords.errors import HasRegisters, TooMany
from wirewords.feeds import (
    choice, chosen_box, clash, conflict, enough_lots, fewer_conflicts, fewest_feeds, is_choice, is_conflict, is_enough,
    may_say, may_stand,
)
from wirewords.gates import step_parting
from wirewords.refusals import DoesNotFit, HangsOnHole, InvalidLot
from wirewords.runs import answer
from wirewords.states import machine_of

WRONG_LOTS = [None, True, 0, "01", {0: 1}, [1, 0], [0, 0], [0, 2], [-1], [True], [0, None], [[0]], ["0"], {0, 1}, (1, 0)]
# without holes, without feeds
SEEN = Frame(Circuit(["p"], [("n", "not", ["p"])], [], ["n"]), ["p", "n"], [])
BLIND = Frame(Circuit(["p", "h"], [("o", "and", ["h", "p"])], [], ["o"]), [], ["h"])
EYES = Circuit(["x", "y"], [], [], [])
ONE_BIT = Circuit([], [("l", "low", [])], [], ["l"])


def some(many, boxes=1, **more):
    return some_frames(many, boxes, **{"registers": 0, "hangs": False, **more})


def ends_with(frame, letter, bits):
    """What the frame's outputs say at a letter for the whole if the holes have some bits."""
    known = dict(zip([name for name in frame.circuit.inputs() if name not in frame.holes()], letter))
    known.update(zip(frame.holes(), bits))
    return answer(frame.circuit, [tuple(known[name] for name in frame.circuit.inputs())])[0]


def letters_for(frame):
    return letters_of(len(frame.circuit.inputs()) - len(frame.holes()))


def said_at(box, look):
    return answer(box, [look])[0]


def naive_may_say(frame, box):
    told = {look: letters_of(len(frame.holes())) for look in letters_of(len(frame.feeds()))}
    _, _, _, feeds = joint_parts(frame, box)
    for letter in letters_for(frame):
        look = joint_answer(frame, box, [letter], feeds)[0]
        right = ends_with(frame, letter, said_at(box, look))
        told[look] = [bits for bits in told[look] if ends_with(frame, letter, bits) == right]
    return told


def at(look, lot):
    return tuple(look[place] for place in lot)


def naive_choices(told, lot, holes):
    """The dict from all bits at positions to the lists of what may be said at each look with these."""
    return {key: [bits for bits in letters_of(holes) if all(bits in told[look] for look in told if at(look, lot) == key)]
            for key in letters_of(len(lot))}


def lots_for(frame):
    many = len(frame.feeds())
    return [list(lot) for size in range(many + 1) for lot in itertools.combinations(range(many), size)]


def naive_is_conflict(frame, told, lot, value):
    if not is_listed(value) or not all(is_bits(look, len(frame.feeds())) for look in value):
        return False
    if len({at(look, lot) for look in value}) > 1:
        return False
    return not [bits for bits in letters_of(len(frame.holes())) if all(bits in told[look] for look in value)]


class SayTest(Case):
    def test_what_may_be_said(self):
        for frame, box in list(some(80)) + [(SHOWN, BOTH), (SEEN, EYES), (BLIND, ONE_BIT)]:
            told = may_say(frame, box)
            self.assertEqual(told, naive_may_say(frame, box))
            self.assertEqual(list(told), letters_of(len(frame.feeds())))
            self.unlike_lists(told)

    def test_another_box(self):
        seen = {True: 0, False: 0}
        for frame, box, other in some(150, 2):
            told = naive_may_say(frame, box)
            right = all(said_at(other, look) in told[look] for look in told)
            _, _, ends, _ = joint_parts(frame, box)
            _, _, other_ends, _ = joint_parts(frame, other)
            parted = [letter for letter in letters_for(frame)
                      if joint_answer(frame, box, [letter], ends) != joint_answer(frame, other, [letter], other_ends)]
            self.assertEqual([may_stand(frame, box, other), clash(frame, box, other)], [right, parted[0] if parted else None])
            self.assertIs(right, not parted)
            seen[right] += 1
            if right and stands(frame, box) and stands(frame, other):
                self.assertIsNone(step_parting(put_in(frame, box), put_in(frame, other)))
        self.assertGreater(min(seen.values()), 20)

    def test_the_document(self):
        self.assertEqual([may_say(frame=SHOWN, box=BOTH)[(0, 1)], may_stand(frame=SHOWN, box=BOTH, other=EITHER)], [[(0,), (1,)], False])
        self.assertEqual([may_say(SHOWN, BOTH)[(1, 1)], clash(frame=SHOWN, box=BOTH, other=EITHER), clash(SHOWN, BOTH, BOTH)], [[(1,)], (1, 0), None])

    def test_looks_that_no_letter_says(self):
        self.assertEqual(may_say(SEEN, EYES), {(0, 0): [()], (0, 1): [()], (1, 0): [()], (1, 1): [()]})
        twice = Frame(Circuit(["p", "h"], [], [], ["h"]), ["p", "p"], ["h"])
        self.assertEqual(may_say(twice, BOTH), {(0, 0): [(0,)], (0, 1): [(0,), (1,)], (1, 0): [(0,), (1,)], (1, 1): [(1,)]})
        self.assertIs(may_stand(twice, BOTH, EITHER), True)
        self.assertEqual([may_say(BLIND, ONE_BIT), may_stand(BLIND, ONE_BIT, Circuit([], [("l", "high", [])], [], ["l"]))], [{(): [(0,)]}, False])
        nothing = Frame(Circuit([]), [], [])
        self.assertEqual([may_say(nothing, Circuit([])), clash(nothing, Circuit([]), Circuit([]))], [{(): [()]}, None])

    def test_four_feeds_and_four_holes(self):
        names, holes = list("abcd"), ["h%d" % k for k in range(4)]
        frame = Frame(Circuit(names + holes, [], [], holes), names, holes)
        box = Circuit(list("wxyz"), [("n", "not", ["w"])], [], ["x", "n", "z", "w"])
        told = may_say(frame, box)
        self.assertEqual([len(told), told[(0, 1, 0, 1)], told[(1, 0, 0, 0)]], [16, [(1, 1, 1, 0)], [(0, 0, 0, 1)]])
        self.assertEqual([fewest_feeds(frame, box), enough_lots(frame, box)], [3, [[0, 1, 3]]])
        many = Frame(Circuit(names + ["e"] + holes[:3], [], [], holes[:3]), names + ["e"], holes[:3])
        wide = Circuit(list("vwxyz"), [], [], list("vwx"))
        five = Frame(Circuit(["a"] + holes + ["i"], [], [], holes), ["a"], holes + ["i"])
        back = Circuit(["w"], [], [], ["w"] * 5)
        for call, lot in ((may_say, ()), (is_enough, ([],)), (choice, ([0],)), (conflict, ([],)), (enough_lots, ()), (fewest_feeds, ()),
                          (fewer_conflicts, ()), (chosen_box, ([0],))):
            self.refuses(TooMany, ["feeds", 4], call, many, wide, *lot)
            self.refuses(TooMany, ["holes", 4], call, five, back, *lot)
        for call in (is_choice, is_conflict):
            self.refuses(TooMany, ["feeds", 4], call, many, wide, [], None)
            self.refuses(TooMany, ["holes", 4], call, five, back, [], None)
        for call in (may_stand, clash):
            self.refuses(TooMany, ["feeds", 4], call, many, wide, wide)
            self.refuses(TooMany, ["holes", 4], call, five, back, back)
        both = Frame(Circuit(["a", "b", "c"] + holes + ["i"], [], [], holes), ["a", "b", "c", "a", "b"], holes + ["i"])
        self.refuses(TooMany, ["feeds", 4], may_say, both, Circuit(list("vwxyz"), [], [], list("vwxyz")))


class LotTest(Case):
    def test_one_of_both(self):
        seen = {True: 0, False: 0}
        for frame, box in list(some(120)) + list(some(20, feeds=3)) + [(SHOWN, BOTH), (SEEN, EYES), (BLIND, ONE_BIT)]:
            told, enough = naive_may_say(frame, box), []
            for lot in lots_for(frame):
                choices = naive_choices(told, lot, len(frame.holes()))
                right = all(choices.values())
                seen[right] += 1
                self.assertEqual([is_enough(frame, box, lot), is_enough(frame, box, tuple(lot))], [right, right])
                picked, against, made = choice(frame, box, lot), conflict(frame, box, lot), chosen_box(frame, box, lot)
                if not right:
                    self.assertEqual([picked, made, type(against)], [None, None, list])
                    self.assertIs(naive_is_conflict(frame, told, lot, against), True)
                    self.assertIs(is_conflict(frame, box, lot, against), True)
                    continue
                enough.append(lot)
                self.assertEqual([picked, against], [{key: found[0] for key, found in choices.items()}, None])
                self.assertEqual([list(picked), is_choice(frame, box, lot, picked)], [sorted(picked), True])
                self.check_box(frame, box, lot, picked, made)
            least = [lot for lot in enough if not any([each for each in lot if each != left] in enough for left in lot)]
            self.assertEqual([enough_lots(frame, box), fewest_feeds(frame, box)], [least, len(least[0])])
            against = fewer_conflicts(frame, box)
            self.assertEqual(list(against), [tuple(lot) for lot in lots_for(frame) if len(lot) == len(least[0]) - 1])
            for lot, value in against.items():
                self.assertIs(naive_is_conflict(frame, told, list(lot), value), True)
            self.unlike_lists(against)
        self.assertGreater(min(seen.values()), 25)

    def check_box(self, frame, box, lot, picked, made):
        """The box says the choice, hangs on nothing else, and may stand."""
        self.assertEqual([len(made.inputs()), len(made.outputs())], [len(frame.feeds()), len(frame.holes())])
        for look in letters_of(len(frame.feeds())):
            self.assertEqual(said_at(made, look), picked[at(look, lot)])
        hangs = {wire for end in made.outputs() for wire in made.cone(end)} & set(made.inputs())
        self.assertLessEqual(hangs, {made.inputs()[place] for place in lot})
        self.assertIs(may_stand(frame, box, made), True)

    def test_no_other_box_needs_less(self):
        # of all boxes with two inputs and one output those that may stand hang on no less than told
        truths = list(itertools.product((0, 1), repeat=4))
        for seed, (frame, box) in enumerate(some(30, feeds=2, holes=1)):
            told = may_say(frame, box)
            looks = letters_of(2)
            hangs = []
            for truth in truths:
                if all((bit,) in told[look] for look, bit in zip(looks, truth)):
                    hangs.append([place for place in range(2) if any(
                        bit != truth[looks.index(tuple(1 - each if k == place else each for k, each in enumerate(look)))]
                        for look, bit in zip(looks, truth))])
            self.assertEqual(fewest_feeds(frame, box), min(len(lot) for lot in hangs))
            for lot in lots_for(frame):
                self.assertIs(is_enough(frame, box, lot), any(set(each) <= set(lot) for each in hangs))

    def test_the_document(self):
        self.assertEqual([enough_lots(frame=SHOWN, box=BOTH), fewest_feeds(frame=SHOWN, box=BOTH)], [[[1]], 1])
        self.assertEqual(choice(frame=SHOWN, box=BOTH, lot=[1]), {(0,): (0,), (1,): (1,)})
        self.assertEqual([choice(SHOWN, BOTH, [0, 1])[(0, 1)], choice(SHOWN, BOTH, [0]), is_enough(frame=SHOWN, box=BOTH, lot=[])], [(0,), None, False])
        self.assertEqual(list(fewer_conflicts(frame=SHOWN, box=BOTH)), [()])
        self.assertEqual([fewer_conflicts(SEEN, EYES), enough_lots(SEEN, EYES), fewest_feeds(BLIND, ONE_BIT), chosen_box(BLIND, ONE_BIT, []).inputs()],
                         [{}, [[]], 0, []])
        self.assertEqual(len(chosen_box(frame=SHOWN, box=BOTH, lot=[1]).inputs()), 2)
        self.assertIsNone(conflict(frame=SHOWN, box=BOTH, lot=[1]))

    def test_choices_of_any_value(self):
        seen = {True: 0, False: 0}
        for frame, box in list(some(40)) + [(SHOWN, BOTH)]:
            told = naive_may_say(frame, box)
            for lot in lots_for(frame):
                choices = naive_choices(told, lot, len(frame.holes()))
                value = {key: (found or [(0,) * len(frame.holes())])[-1] for key, found in choices.items()}
                for each in [value] + some_variants(value, 30) + ODD:
                    right = type(each) is dict and set(each) == set(choices) and all(is_bits(key, len(lot)) for key in each)
                    right = right and all(is_bits(each[key], len(frame.holes())) and each[key] in choices[key] for key in each)
                    self.assertIs(is_choice(frame, box, lot, each), right)
                    seen[right] += 1
        self.assertGreater(min(seen.values()), 60)
        self.assertIs(is_choice(frame=SHOWN, box=BOTH, lot=[1], value={(0,): (0,), (1,): (1,)}), True)
        for value in ({(0,): (False,), (1,): (1,)}, {(False,): (0,), (1,): (1,)}, {(0,): [0], (1,): (1,)}, {(1,): (1,)}, {(0,): (0,), (1,): (0,)},
                      {(0,): (1,), (1,): (1,)}, {(0,): (0,), (1,): (1,), (2,): (0,)}):
            self.assertIs(is_choice(SHOWN, BOTH, [1], value), False)

    def test_conflicts_of_any_value(self):
        seen = {True: 0, False: 0}
        for frame, box in list(some(60)) + [(SHOWN, BOTH)]:
            told = naive_may_say(frame, box)
            for lot in lots_for(frame):
                value = conflict(frame, box, lot) or letters_of(len(frame.feeds()))
                for each in [value, tuple(value), value + value] + some_variants(value, 30) + ODD:
                    right = naive_is_conflict(frame, told, lot, each)
                    self.assertIs(is_conflict(frame, box, lot, each), right)
                    seen[right] += 1
        self.assertGreater(min(seen.values()), 60)
        self.assertIs(is_conflict(frame=SHOWN, box=BOTH, lot=[0], value=[(1, 0), (1, 1)]), True)
        for value in ([(1, 1)], [(0, 0), (1, 1)], [(1, 0), (True, 1)], [[1, 0], (1, 1)], [], {(1, 0): 1, (1, 1): 1}, [(1, 0), (1, 1), (1, 0, 0)]):
            self.assertIs(is_conflict(SHOWN, BOTH, [0], value), False)
        self.assertIs(is_conflict(SHOWN, BOTH, [], [(0, 0), (1, 0), (1, 1)]), True)


class WrongTest(Case):
    def calls(self):
        """All functions, as calls of a frame, a box, another one and a lot."""
        yield from (lambda frame, box, other, lot, call=call: call(frame, box) for call in (may_say, enough_lots, fewest_feeds, fewer_conflicts))
        yield from (lambda frame, box, other, lot, call=call: call(frame, box, lot) for call in (is_enough, choice, conflict, chosen_box))
        yield from (lambda frame, box, other, lot, call=call: call(frame, box, lot, None) for call in (is_choice, is_conflict))
        yield from (lambda frame, box, other, lot, call=call: call(frame, box, other) for call in (may_stand, clash))

    def test_registers(self):
        held = Frame(Circuit(["p", "q", "h"], [], [("s", 0, "p"), ("r", 0, "q")], ["h"]), ["p"], ["h"])
        late = Circuit(["x"], [], [("z", 0, "x"), ("y", 0, "z")], ["y"])
        for call in self.calls():
            self.refuses(HasRegisters, ["r"], call, held, late, WAIT, None)
            self.refuses(HasRegisters, ["y"], call, SHOWN, late, WAIT, None)
        for call in (may_stand, clash):
            self.refuses(HasRegisters, ["q"], call, SHOWN, TELL, WAIT)
            self.refuses(HasRegisters, ["q"], call, frame=SHOWN, other=FLIP, box=BOTH)

    def test_feeds_that_hang_on_a_hole(self):
        circuit = Circuit(["p", "h", "i"], [("m", "not", ["p"]), ("n", "and", ["p", "h"]), ("o", "not", ["n"])], [], ["o"])
        box = Circuit(["x", "y"], [], [], ["x"])
        for feeds, place in ((["m", "n"], 1), (["o", "n"], 0), (["p", "o"], 1)):
            for call in self.calls():
                self.refuses(HangsOnHole, [place], call, Frame(circuit, feeds, ["h"]), box, box, None)
                self.refuses(HangsOnHole, [place], call, Frame(circuit, feeds, ["h", "i"]), TELL, TELL, None)
        self.assertEqual(len(may_say(Frame(circuit, ["m", "n"], ["i"]), box)), 4)
        # registers come ahead of that, of whichever they are
        self.refuses(HasRegisters, ["q"], may_say, Frame(circuit, ["n"], ["h"]), WAIT)

    def test_boxes_that_do_not_fit(self):
        for call in self.calls():
            with self.assertRaises(DoesNotFit) as caught:
                call(SHOWN, TELL, EYES, [0])
            self.assertTrue(caught.exception.frame is SHOWN and caught.exception.box is TELL)
        for call in (may_stand, clash):
            with self.assertRaises(DoesNotFit) as caught:
                call(SHOWN, BOTH, EYES)
            self.assertIs(caught.exception.box, EYES)
            self.refuses(HasRegisters, ["q"], call, SHOWN, TELL, WAIT)
        # a box that does not fit comes ahead of too many feeds
        wide = Frame(Circuit(list("abcde"), [], [], []), list("abcde"), [])
        self.refuses(DoesNotFit, [wide, TELL], may_say, wide, TELL)

    def test_lots(self):
        for value in WRONG_LOTS:
            for call in (is_enough, choice, conflict, chosen_box):
                self.refuses_value(InvalidLot, value, call, SHOWN, BOTH, value)
                self.refuses_value(InvalidLot, value, call, SHOWN, TELL, lot=value)
            for call in (is_choice, is_conflict):
                self.refuses_value(InvalidLot, value, call, SHOWN, BOTH, value, None)
        self.assertTrue(is_rising([0, 1], 2) and len(list(variants([0]))) > 3 and machine_of(TURN) is not None)

    def test_repeated_and_unchanged(self):
        for frame, box, other in some(12, 2):
            texts, lot = [repr(frame), repr(box), repr(other)], list(range(len(frame.feeds())))
            for call in self.calls():
                self.assertEqual(call(frame, box, other, lot), call(frame, box, other, lot))
            self.assertEqual([repr(frame), repr(box), repr(other), lot], texts + [list(range(len(frame.feeds())))])
        self.assertEqual(random_box(3, 2, 1), random_box(3, 2, 1))

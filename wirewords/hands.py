"""Games: inputs that are held by two, and a pattern of the outputs that one of them is to keep for ever."""

from wirewords.bits import all_bits, is_count, is_letter, is_list, is_word
from wirewords.checks import check_number
from wirewords.errors import InvalidWord
from wirewords.made import renamed
from wirewords.maps import check_wires
from wirewords.patterns import is_place
from wirewords.refusals import InvalidHands, InvalidNode, InvalidPlan
from wirewords.states import MOST_MADE_STATES, MOST_MADE_WIRES, MOST_WIRES, circuit_by_rows
from wirewords.walks import Steps, walked

MOST_NODES = 500


class Game:
    """A circuit, which of its inputs are ours, a pattern to be kept, and who chooses first; it never changes."""

    def __init__(self, circuit, ours, pattern, early=False):
        check_hands(circuit, ours)
        check_wires(pattern, circuit.outputs())
        check_number("inputs", circuit.inputs(), MOST_WIRES)
        self._circuit = circuit
        self._ours = tuple([name for name in circuit.inputs() if name in ours])
        self._pattern = pattern
        self._early = early
        self._nodes = tuple(nodes_met(circuit, pattern))

    @property
    def circuit(self):
        """The circuit that is played with."""
        return self._circuit

    @property
    def pattern(self):
        """The pattern to be kept."""
        return self._pattern

    @property
    def early(self):
        """Whether we choose first."""
        return self._early

    def ours(self):
        """Our inputs, in the sequence of the circuit's."""
        return list(self._ours)

    def theirs(self):
        """Their inputs, in the sequence of the circuit's."""
        return [name for name in self._circuit.inputs() if name not in self._ours]

    def nodes(self):
        """The nodes that are come to, sorted."""
        return list(self._nodes)

    def turned(self):
        """The game in which the other one chooses first."""
        return Game(self._circuit, self._ours, self._pattern, not self._early)

    def __eq__(self, other):
        return (
            isinstance(other, Game)
            and self._circuit == other._circuit
            and self._ours == other._ours
            and self._pattern == other._pattern
            and self._early == other._early
        )


def check_hands(circuit, ours):
    """Raise InvalidHands unless these are unlike inputs."""
    if not is_list(ours):
        raise InvalidHands(None)
    met = {}
    for at, name in enumerate(ours):
        if name not in circuit or circuit.kind(name) != "input" or name in met:
            raise InvalidHands(at)
        met[name] = True


def nodes_met(circuit, pattern):
    """The sorted list of the nodes that are come to by letters that lead on."""
    steps, goes = Steps(circuit), pattern.goes()

    def moves(node):
        state, place = node
        return [((), (goal, goes[place][out])) for goal, out in steps.row(state) if out in goes[place]]

    came, _ = walked((circuit.first(), 0), moves, MOST_NODES)
    check_number("nodes", came, MOST_NODES)
    return sorted(came)


class Board:
    """What may be chosen in a game, and where letters lead from its nodes."""

    def __init__(self, game):
        self._inputs = game.circuit.inputs()
        self._names = game.ours() + game.theirs()
        self._early = game.early
        self._steps = Steps(game.circuit)
        self._goes = game.pattern.goes()
        self._own = all_bits(len(game.ours()))
        self._their = all_bits(len(game.theirs()))

    def letter(self, own, their):
        """The letter that is made of what both choose."""
        known = {name: bit for name, bit in zip(self._names, own + their)}
        return tuple([known[name] for name in self._inputs])

    def step(self, node, own, their):
        """Where a letter leads from a node, None if not on, and what the outputs say."""
        state, place = node
        following, out = self._steps.step(state, self.letter(own, their))
        return (following, self._goes[place][out]) if out in self._goes[place] else None, out

    def goals(self, node):
        """The dict from all tuples (ours, theirs) to where these letters lead, None if not on."""
        return {(own, their): self.step(node, own, their)[0] for own in self._own for their in self._their}

    def falls(self, goals, counts):
        """Whether they can choose so that what is chosen leads not on, or to a node with a count."""
        bad = {pair: goals[pair] is None or goals[pair] in counts for pair in goals}
        if self._early:
            return all([any([bad[(own, their)] for their in self._their]) for own in self._own])
        return any([all([bad[(own, their)] for own in self._own]) for their in self._their])

    def least_plan(self, goals, counts):
        """The least bits for us at a node without a count, so that only such nodes are come to."""
        good = {pair: goals[pair] is not None and goals[pair] not in counts for pair in goals}
        if self._early:
            return [own for own in self._own if all([good[(own, their)] for their in self._their])][0]
        return {their: [own for own in self._own if good[(own, their)]][0] for their in self._their}

    def least_spoiler(self, goals, counts, count):
        """The least bits for them at a node with a count, so that only nodes with lesser ones are come to."""
        bad = {pair: goals[pair] is None or counts.get(goals[pair], count) < count for pair in goals}
        if self._early:
            return {own: [their for their in self._their if bad[(own, their)]][0] for own in self._own}
        return [their for their in self._their if all([bad[(own, their)] for own in self._own])][0]

    def pairs_planned(self, chosen):
        """The tuples (ours, theirs) that come of our choice at a node, None for any value that is no choice."""
        if self._early:
            return [(chosen, their) for their in self._their] if is_one_of(chosen, self._own) else None
        return [(chosen[their], their) for their in self._their] if is_reply(chosen, self._their, self._own) else None

    def pairs_spoiled(self, chosen):
        """The tuples (ours, theirs) that come of their choice at a node, None for any value that is no choice."""
        if self._early:
            return [(own, chosen[own]) for own in self._own] if is_reply(chosen, self._own, self._their) else None
        return [(own, chosen) for own in self._own] if is_one_of(chosen, self._their) else None


def is_one_of(value, rows):
    """Whether any value is one of the tuples of bits of a width, all of which are told."""
    return is_letter(value, len(rows[0]))


def is_reply(value, rows, replies):
    """Whether any value is a dict from all of some tuples of bits to some of others."""
    if not isinstance(value, dict) or len(value) != len(rows):
        return False
    return all([is_one_of(key, rows) and is_one_of(value[key], replies) for key in value])


def all_goals(game):
    """The dict from the nodes that are come to, to the goals there."""
    board = Board(game)
    return {node: board.goals(node) for node in game.nodes()}


def counts_of(game, goals):
    """The dict to the least counts from the nodes that no plan has."""
    board = Board(game)
    counts = {}
    left = list(goals)
    fresh = [node for node in left if board.falls(goals[node], counts)]
    number = 0
    while fresh:
        for node in fresh:
            counts[node] = number
        left = [node for node in left if node not in counts]
        number += 1
        fresh = [node for node in left if board.falls(goals[node], counts)]
    return counts


def first_node(game):
    """The node at which a game begins."""
    return game.circuit.first(), 0


def we_keep(game):
    """Whether there is a plan."""
    return first_node(game) not in counts_of(game, all_goals(game))


def whole_plan(game):
    """The whole plan; None if it is no plan."""
    goals = all_goals(game)
    counts = counts_of(game, goals)
    if first_node(game) in counts:
        return None
    board = Board(game)
    return {node: board.least_plan(goals[node], counts) for node in goals if node not in counts}


def whole_spoiler(game):
    """The whole spoiler; None if it is no spoiler."""
    goals = all_goals(game)
    counts = counts_of(game, goals)
    if first_node(game) not in counts:
        return None
    board = Board(game)
    return {
        node: (counts[node], board.least_spoiler(goals[node], counts, counts[node])) for node in goals if node in counts
    }


def is_node(game, value):
    """Whether any value is a tuple of a state of the circuit and a place of the pattern."""
    if not isinstance(value, tuple) or len(value) != 2:
        return False
    return is_letter(value[0], len(game.circuit.first())) and is_place(game.pattern, value[1])


def are_nodes(game, value):
    """Whether any value is a dict from nodes, the first one among them."""
    return isinstance(value, dict) and all([is_node(game, node) for node in value]) and first_node(game) in value


def is_plan(game, value):
    """Whether any value is a plan."""
    if not are_nodes(game, value):
        return False
    board = Board(game)
    for node in value:
        pairs = board.pairs_planned(value[node])
        if pairs is None or not all([board.step(node, own, their)[0] in value for own, their in pairs]):
            return False
    return True


def is_spoiler(game, value):
    """Whether any value is a spoiler."""
    if not are_nodes(game, value):
        return False
    told = list(value.values())
    if not all([isinstance(each, tuple) and len(each) == 2 and is_count(each[0]) for each in told]):
        return False
    board = Board(game)
    for node in value:
        count, chosen = value[node]
        pairs = board.pairs_spoiled(chosen)
        if pairs is None:
            return False
        for own, their in pairs:
            goal = board.step(node, own, their)[0]
            if goal is not None and (goal not in value or value[goal][0] >= count):
                return False
    return True


def count_at(game, node):
    """The count of a node in the whole spoiler; None where the whole plan has it."""
    if not is_node(game, node) or node not in game.nodes():
        raise InvalidNode(node)
    return counts_of(game, all_goals(game)).get(node)


def check_choices(word, names):
    """Raise InvalidWord unless this is a word of as many bits as there are names."""
    if not is_word(word, len(names)):
        raise InvalidWord(word)


def played(game, plan, word):
    """The letters that come by a plan if they choose the tuples of a word."""
    if not is_plan(game, plan):
        raise InvalidPlan(plan)
    check_choices(word, game.theirs())
    board = Board(game)
    node = first_node(game)
    told = []
    for their in word:
        own = plan[node] if game.early else plan[node][their]
        told.append(board.letter(own, their))
        node = board.step(node, own, their)[0]
    return told


def spoiled(game, spoiler, word):
    """The letters that come by a spoiler if we choose the tuples of a word, up to the first that does not lead on."""
    if not is_spoiler(game, spoiler):
        raise InvalidPlan(spoiler)
    check_choices(word, game.ours())
    board = Board(game)
    node = first_node(game)
    told = []
    for own in word:
        chosen = spoiler[node][1]
        their = chosen[own] if game.early else chosen
        told.append(board.letter(own, their))
        node = board.step(node, own, their)[0]
        if node is None:
            break
    return told


def planned_rows(game, plan):
    """For the nodes that a plan comes to, as they are met, where their bits lead, by numbers, and what is said."""
    board, theirs = Board(game), all_bits(len(game.theirs()))
    met = [first_node(game)]
    rows = []
    while len(rows) < len(met):
        node = met[len(rows)]
        row = []
        for their in theirs:
            own = plan[node] if game.early else plan[node][their]
            goal, out = board.step(node, own, their)
            if goal not in met:
                met.append(goal)
            row.append((met.index(goal), out))
        rows.append(row)
    return rows


def with_inputs(circuit, names):
    """The circuit with these names for its inputs, and others for all other wires."""
    inner = [wire for wire in circuit.wires() if circuit.kind(wire) != "input"]
    fresh = [name for name in [f"w{at}" for at in range(len(inner) + len(names))] if name not in names]
    told = {wire: name for wire, name in zip(inner + circuit.inputs(), fresh[:len(inner)] + names)}
    return renamed(circuit, told)


def planned(game):
    """A circuit with their inputs alone, that answers as if ours are chosen by the whole plan; None."""
    plan = whole_plan(game)
    if plan is None:
        return None
    outputs = game.circuit.outputs()
    check_number("inputs", game.theirs(), MOST_MADE_WIRES)
    check_number("outputs", outputs, MOST_MADE_WIRES)
    check_number("nodes", plan, MOST_MADE_STATES)
    made = circuit_by_rows(len(game.theirs()), len(outputs), planned_rows(game, plan))
    return with_inputs(made, game.theirs())

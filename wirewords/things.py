"""The kinds of things that are written, claimed of, and kept on a bench."""

from wirewords.boxes import Frame
from wirewords.circuits import Circuit
from wirewords.hands import Game
from wirewords.machines import Machine
from wirewords.patterns import Pattern
from wirewords.tangles import Tangle
from wirewords.wirings import Wiring


def kind_of(value):
    """The word for the class of a thing; the empty string for any value that is none."""
    if isinstance(value, Circuit):
        return "circuit"
    if isinstance(value, Tangle):
        return "tangle"
    if isinstance(value, Machine):
        return "machine"
    if isinstance(value, Wiring):
        return "wiring"
    if isinstance(value, Pattern):
        return "pattern"
    if isinstance(value, Frame):
        return "frame"
    return "game" if isinstance(value, Game) else ""


def copied(value):
    """A value with new lists and dicts in the place of those within it, however deep they stand."""
    todo = [(value, False)]
    done = []
    while todo:
        now, entered = todo.pop()
        if not isinstance(now, (list, tuple, dict)):
            done.append(now)
        elif not entered:
            todo.append((now, True))
            parts = list(now.values()) if isinstance(now, dict) else list(now)
            todo.extend([(part, False) for part in parts[::-1]])
        else:
            begun = len(done) - len(now)
            parts = done[begun:]
            del done[begun:]
            done.append(rebuilt(now, parts))
    return done[0]


def rebuilt(value, parts):
    """A list, tuple or dict like another one, with other elements or values."""
    if isinstance(value, dict):
        return {key: part for key, part in zip(value, parts)}
    return tuple(parts) if isinstance(value, tuple) else list(parts)

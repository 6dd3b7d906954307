"""Audits: what was unsafe, what was a surprise, and which devices went out, by a journal."""

from keeproom.forces import Force
from keeproom.moving import is_among
from keeproom.numbers import read_number
from keeproom.replays import read_journal
from keeproom.states import possible


def audit(plant, text):
    """For each record at which something was found: {"event", "unsafe", "surprise", "out"}."""
    events, _ = read_journal(plant, text)
    found = []
    state = plant.first_state()
    force = None
    for at, event in enumerate(events):
        if event[0] == "orders":
            force = Force(plant, event[1])
        else:
            number = read_number(event[2])
            after = plant.state_after(state, event[1], number)
            finding = {"event": at, "unsafe": _is_unsafe(force, state, event[1], number),
                       "surprise": _is_surprise(force, state, after), "out": _out(state, after)}
            if finding["unsafe"] or finding["surprise"] or len(finding["out"]) > 0:
                found.append(finding)
            state = after
    return found


def _is_unsafe(force, state, name, number):
    """Whether a record at a state is the room's, and not safe though it could have been."""
    return state[0] and force.can_stand(state) and not is_among(state, force.safe_moves(state), name, number)


def _is_surprise(force, state, after):
    """Whether a record from one state to another is the others', and no assumed device that was possible allows it."""
    return not state[0] and len(force.left(state)) > 0 and len(force.left(after)) == 0


def _out(state, after):
    """The devices that go out from one state to another."""
    there = possible(after)
    return tuple([device for device in possible(state) if device not in there])

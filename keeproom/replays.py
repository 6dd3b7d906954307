"""Journals that are read again."""

from keeproom.errors import JournalError, OrdersError
from keeproom.forces import Force
from keeproom.journals import FIRST_SUM, sum_after
from keeproom.numbers import read_number
from keeproom.rooms import Room


def read_journal(plant, text):
    """The events of a journal, and the length of its rest."""
    lines = text.split("\n")
    rest = lines.pop()
    events = _events_of(lines, plant.names)
    _check_events(plant, events)
    return (events, len(rest))


def replay(plant, text):
    """A room for which the events of a journal happened."""
    events, _ = read_journal(plant, text)
    room = Room(plant, events[0][1])
    for event in events[1:]:
        if event[0] == "orders":
            room.order(event[1])
        else:
            room.hear([event[1:]])
    return room


def _events_of(lines, names):
    """The events of lines; raises JournalError for the first one that is not of the form."""
    events = []
    total = FIRST_SUM
    for at, line in enumerate(lines):
        text, _, told = line.rpartition(" ")
        event = _event_of(text.split(" "), names)
        total = sum_after(total, text)
        if event is None or told != str(total):
            raise JournalError("changed", at)
        events.append(event)
    return events


def _event_of(words, names):
    """The event of the words of its text, None if they are of neither form."""
    if words[0] == "h" and len(words) == 3 and words[1] in names and read_number(words[2]) is not None:
        return ("record", words[1], words[2])
    if words[0] != "o" or len(words) != 5:
        return None
    told = [_digits_of(word) for word in words[1:]]
    if None in told:
        return None
    return ("orders", {"devices": told[0], "never": told[1], "again": told[2], "promises": told[3]})


def _digits_of(word):
    """The numbers of a word of digits, none of -, and None if it is neither."""
    if word == "-":
        return ()
    if not (word.isascii() and word.isdecimal()):
        return None
    return tuple([int(digit) for digit in word])


def _check_events(plant, events):
    """Refuses events that are not valid where they stand."""
    if len(events) == 0 or events[0][0] != "orders":
        raise JournalError("cannot", 0)
    state = plant.first_state()
    for at, event in enumerate(events):
        if event[0] == "record":
            state = plant.state_after(state, event[1], read_number(event[2]))
        elif not _can_stand(plant, event[1], state):
            raise JournalError("cannot", at)


def _can_stand(plant, orders, state):
    """Whether orders, perhaps wrong ones, can be put in force at a state."""
    try:
        return Force(plant, orders).can_stand(state)
    except OrdersError:
        return False

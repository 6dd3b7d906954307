"""Rooms: they hear what comes, move, and keep the orders that are in force."""

from keeproom.clashing import clashes_at
from keeproom.errors import JournalFull, KeptError, NoSuch, NotItsTurn, OrdersError, PapersError, Resumed
from keeproom.forces import Force
from keeproom.grounds import has, set_of
from keeproom.journals import write_journal
from keeproom.judge import first_fault
from keeproom.moving import is_among, move_of_number, record_of
from keeproom.numbers import less, read_number, write_number
from keeproom.orders import copy_of_orders
from keeproom.rows import read_row
from keeproom.states import numbers_of, possible, state_of
from keeproom.trials import soonest_into

MOST_EVENTS = 200


class Room:
    """A room beside a plant, with orders in force."""

    def __init__(self, plant, orders):
        force = Force(plant, orders)
        force.check_can_stand(plant.first_state())
        self._plant = plant
        self._state = plant.first_state()
        self._put_in_force(force)
        self._events = [("orders", force.orders)]
        self._is_resumed = False

    def hear(self, row):
        """Hears the records of a row."""
        records = read_row(row, self._plant.names)
        self._check_journal(len(records))
        for name, number in records:
            self._hear_one(name, number)

    def state(self):
        """What is so now: {"mine", "possible", "left", "answers", "can", "orders"}."""
        told = self._plant.look_at(self._state)
        told["left"] = self._force.left(self._state)
        told["can"] = self._force.can_stand(self._state)
        told["orders"] = copy_of_orders(self._force.orders)
        return told

    def move(self):
        """The record that the room makes now."""
        self._check_may_move()
        return self._own_record()

    def play(self):
        """Makes the record that the room makes now, and hears it."""
        made = self.move()
        self.hear([made])
        return made

    def safe(self):
        """The list of the records that are safe now."""
        if not self._state[0]:
            raise NotItsTurn()
        return [record_of(self._state, move) for move in self._force.safe_moves(self._state)]

    def pass_by(self, record, patience):
        """What is passed for a proposed record: this, or the room's own one."""
        name, number = read_row([record], self._plant.names)[0]
        self._check_may_move()
        if self._since < patience and is_among(self._state, self._force.safe_moves(self._state), name, number):
            return (name, write_number(number))
        return self._own_record()

    def order(self, orders):
        """Puts these orders in force."""
        force = Force(self._plant, orders)
        force.check_can_stand(self._state)
        self._check_journal(1)
        self._put_in_force(force)
        self._events.append(("orders", force.orders))

    def would(self, orders):
        """Whether these orders could be put in force, if the journal is not full."""
        return Force(self._plant, orders).can_stand(self._state)

    def trust(self, given):
        """Moves by these papers from now on."""
        for key in ("wins", "good", "evil"):
            if len(given[key]) != self._plant.shapes():
                raise PapersError()
        if first_fault(self._force.ground, given) is not None:
            raise PapersError()
        # Of papers that hold the room needs no more: they tell the same nodes to be the room's as its own ones.
        self._good = [list(good) for good in given["good"]]

    def clashes(self):
        """Which demands, promises and devices go together: {"least", "greatest", "promises", "devices"}."""
        return clashes_at(self._plant, self._force.orders, self._node(), possible(self._state))

    def apart(self, i, j):
        """Within how many moves the room can bring about that not both devices are possible, None if it cannot."""
        for device in (i, j):
            if not 0 <= device < len(self._plant.devices):
                raise NoSuch()
        there = [possible(shape) for shape in self._plant.reached]
        return self._soonest_into(set_of([i not in devices or j not in devices for devices in there]))

    def soonest(self, q):
        """Within how many moves the room can bring about that a question answers, None if it cannot."""
        if not 0 <= q < len(self._plant.trees):
            raise NoSuch()
        return self._soonest_into(set_of([node["answers"][q] for node in self._force.nodes]))

    def kept(self):
        """What the room keeps: {"place", "numbers", "orders", "turn", "since"}."""
        numbers = tuple([write_number(number) for number in numbers_of(self._state)])
        return {"place": self._node(), "numbers": numbers, "orders": copy_of_orders(self._force.orders),
                "turn": self._turn, "since": self._since}

    def journal(self):
        """The text of the room's events."""
        if self._is_resumed:
            raise Resumed()
        return write_journal(self._events)

    def twin(self):
        """A room that goes on by itself from here."""
        other = _any_room(self._plant)
        other._stand(self._state, self._force, self._turn, self._since)
        other._good = self._good
        other._events = list(self._events)
        other._is_resumed = self._is_resumed
        return other

    def _stand(self, state, force, turn, since):
        """Goes on from elsewhere, by the papers of the orders, without events."""
        self._state = state
        self._put_in_force(force)
        self._turn = turn
        self._since = since
        self._events = []
        self._is_resumed = True

    def _put_in_force(self, force):
        """Begins to keep other orders."""
        self._force = force
        self._good = force.papers["good"]
        self._turn = 0
        self._since = 0

    def _node(self):
        """The number of the node at which the room is."""
        return self._plant.shape_number(self._state)

    def _check_journal(self, more):
        """Refuses more events than there may be."""
        if len(self._events) + more > MOST_EVENTS:
            raise JournalFull()

    def _hear_one(self, name, number):
        """Hears a record with this name and this number, a pair."""
        goals = self._force.ground.goals
        if has(goals[self._turn], self._node()):
            self._turn = (self._turn + 1) % len(goals)
            self._since = 0
        else:
            self._since += 1
        self._state = self._plant.state_after(self._state, name, number)
        self._events.append(("record", name, write_number(number)))

    def _check_may_move(self):
        """Refuses to move where the room cannot."""
        if not self._state[0]:
            raise NotItsTurn()
        self._force.check_can_stand(self._state)

    def _own_record(self):
        """The record of the move that the papers tell for the node and the goal whose turn it is."""
        good = self._good[self._node()]
        # Papers may have fewer entries than there are goals: these are read as zeros.
        number = good[self._turn][2] if self._turn < len(good) else 0
        return record_of(self._state, move_of_number(self._force.moves_at(self._state), number))

    def _soonest_into(self, wanted):
        """Within how many moves the room can come into a set of nodes, None if it cannot."""
        return soonest_into(self._force.ground, self._node(), wanted)


def resume(plant, kept):
    """A room that goes on with what another one has kept."""
    numbers = _numbers_kept(kept["numbers"])
    if not 0 <= kept["place"] < plant.shapes():
        raise KeptError()
    shape = plant.reached[kept["place"]]
    if numbers is None or len(numbers) != len(numbers_of(shape)):
        raise KeptError()
    try:
        force = Force(plant, kept["orders"])
    except OrdersError:
        raise KeptError() from None
    if not 0 <= kept["turn"] < len(force.ground.goals) or kept["since"] < 0:
        raise KeptError()
    room = _any_room(plant)
    room._stand(state_of(shape, numbers), force, kept["turn"], kept["since"])
    return room


def _any_room(plant):
    """A room with orders that can be put in force beside every plant: nothing is asked for beside one device."""
    return Room(plant, {"devices": (0,), "never": (), "again": (), "promises": ()})


def _numbers_kept(texts):
    """The list of pairs of texts of numbers, None if one is none, or if they are not strictly ascending."""
    numbers = [read_number(text) for text in texts]
    if None in numbers or not all([less(a, b) for a, b in zip(numbers, numbers[1:])]):
        return None
    return numbers

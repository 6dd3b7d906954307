"""Others against whom no room keeps the orders, where none can."""

from keeproom.errors import CanKeep, NothingPossible, NotItsTurn
from keeproom.forces import Force
from keeproom.grounds import has
from keeproom.moving import move_of_number, record_of
from keeproom.rows import read_row


class Others:
    """The others beside a plant, who keep any room from keeping some orders in all devices that are left."""

    def __init__(self, plant, orders, row):
        force = Force(plant, orders)
        state = plant.state_after_row(row)
        if len(force.left(state)) == 0:
            raise NothingPossible()
        if force.is_won(state):
            raise CanKeep()
        self._plant = plant
        self._force = force
        self._state = state
        self._turn = 0

    def hear(self, record):
        """Hears a record."""
        name, number = read_row([record], self._plant.names)[0]
        promises = self._force.ground.promises
        if has(promises[self._turn], self._node()):
            self._turn = (self._turn + 1) % len(promises)
        self._state = self._plant.state_after(self._state, name, number)

    def move(self):
        """The record that the others make now."""
        if self._state[0]:
            raise NotItsTurn()
        choice = self._force.papers["evil"][self._node()]["choice"][self._turn]
        return record_of(self._state, move_of_number(self._force.moves_at(self._state), choice))

    def _node(self):
        """The number of the node at which the others are."""
        return self._plant.shape_number(self._state)

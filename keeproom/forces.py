"""Orders that may be put in force, and what follows from them beside a plant."""

from keeproom.arenas import arena
from keeproom.errors import CannotKeep, NothingPossible
from keeproom.grounds import Ground, has, set_of
from keeproom.orders import copy_of_orders
from keeproom.proofs import papers_for
from keeproom.states import left_at


class Force:
    """Orders with their arena, their papers, and the set of the room's nodes; it never changes."""

    def __init__(self, plant, orders):
        self.plant = plant
        self.nodes = arena(plant, orders)
        self.orders = copy_of_orders(orders)
        self.ground = Ground(self.nodes, orders)
        self.papers = papers_for(self.ground)
        self.won = set_of(self.papers["wins"])

    def left(self, state):
        """The assumed devices that are possible."""
        return left_at(state, self.orders["devices"])

    def is_won(self, state):
        """Whether the node is one of the room's."""
        return has(self.won, self.plant.shape_number(state))

    def can_stand(self, state):
        """Whether the orders can be put in force at a state."""
        return len(self.left(state)) > 0 and self.is_won(state)

    def check_can_stand(self, state):
        """Refuses orders that cannot be put in force at a state."""
        if len(self.left(state)) == 0:
            raise NothingPossible()
        if not self.is_won(state):
            raise CannotKeep()

    def moves_at(self, state):
        """The moves of the node."""
        return self.nodes[self.plant.shape_number(state)]["moves"]

    def safe_moves(self, state):
        """The moves of the node, at the room's turn, that are of records which are safe."""
        # The only move of a stuck node, whose record may not be made, leads to a node that is bad: to itself.
        return [move for move in self.moves_at(state) if has(self.won, move[2])]

"""Arenas: what the room and the others may do under some orders, and whether the orders can be kept."""

from keeproom.grounds import Ground, has
from keeproom.orders import check_orders
from keeproom.stages import room_stages
from keeproom.states import left_at


def arena(plant, orders):
    """For each shape its node: {"mine", "answers", "stuck", "moves"}."""
    check_orders(plant, orders)
    return [_node(plant, number, orders["devices"]) for number in range(plant.shapes())]


def can(plant, orders, row):
    """Whether some assumed device is possible after the row, and the node of its point is one of the room's."""
    nodes = arena(plant, orders)
    state = plant.state_after_row(row)
    if len(left_at(state, orders["devices"])) == 0:
        return False
    return has(room_stages(Ground(nodes, orders))[-1], plant.shape_number(state))


def may_be_made(before, after, assumed):
    """Whether, beside these assumed devices, a record may be made that leads from one state to another."""
    left = left_at(before, assumed)
    still = left_at(after, assumed)
    # Nobody tells the room which device is the true one, so each one that is left has to allow what it does.
    if before[0]:
        return len(left) > 0 and still == left
    return len(still) > 0


def _node(plant, number, assumed):
    """The node of a shape."""
    shape = plant.reached[number]
    moves = [way for way in plant.ways[number] if may_be_made(shape, plant.reached[way[2]], assumed)]
    stuck = shape[0] and len(moves) == 0
    if len(moves) == 0:
        moves = [(plant.names[0], 0, number)]
    answers = tuple([answer is not None for answer in plant.answers_at(shape)])
    return {"mine": shape[0], "answers": answers, "stuck": stuck, "moves": moves}

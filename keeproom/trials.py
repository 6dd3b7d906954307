"""How soon the room can bring something about, whatever the others do."""

from keeproom.grounds import has
from keeproom.stages import can_go


def soonest_into(ground, node, wanted):
    """The least number of moves within which the room can come from a node into a set of nodes, None if there is none.

    No node on the way is bad.
    """
    good = ground.everywhere - ground.bad
    near = good & wanted
    moves = 0
    while not has(near, node):
        nearer = near | good & can_go(ground, near)
        if nearer == near:
            return None
        near = nearer
        moves += 1
    return moves

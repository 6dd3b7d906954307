"""Papers: why the room's nodes are its, and the others not; and the judge who checks them."""

from keeproom.arenas import arena
from keeproom.grounds import Ground
from keeproom.judge import first_fault
from keeproom.proofs import papers_for


def papers(plant, orders):
    """The papers of some orders: {"wins", "good", "evil"}."""
    return papers_for(Ground(arena(plant, orders), orders))


def check(plant, orders, given):
    """None if these papers hold for the orders, otherwise the first fault."""
    return first_fault(Ground(arena(plant, orders), orders), given)

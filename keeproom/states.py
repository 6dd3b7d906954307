"""States of a plant, and their shapes.

A state is a tuple: whether it is the room's turn; for each device how it stands; the cells of all questions, one
after the other. A shape is a state, too, with the rank of each number in its place, as a number.
"""

from keeproom.numbers import put_in


def possible(state):
    """The devices that are possible."""
    return tuple([at for at, stands in enumerate(state[1]) if stands is not None])


def left_at(state, assumed):
    """Those of the assumed devices that are possible."""
    there = possible(state)
    return tuple([device for device in assumed if device in there])


def numbers_of(state):
    """The numbers of a state, ascending, each once."""
    found = []
    for stands in state[1]:
        if stands is not None:
            found.extend(stands[1])
    for answer, _, held in state[2]:
        found.extend(held)
        if answer is not None:
            found.append(answer)
    numbers = ()
    for number in found:
        numbers = put_in(number, numbers)
    return numbers


def shape_of(state):
    """The shape of a state."""
    ranks = {None: None}
    for rank, number in enumerate(numbers_of(state)):
        ranks[number] = (rank, 1)
    mine, devices, cells = state
    return (mine, tuple([_with_ranks(stands, ranks) for stands in devices]),
            tuple([(ranks[answer], count, _ranks_of(held, ranks)) for answer, count, held in cells]))


def _with_ranks(stands, ranks):
    """How a device stands, with ranks in place of the numbers that it keeps."""
    if stands is None:
        return None
    place, kept = stands
    return (place, _ranks_of(kept, ranks))


def _ranks_of(numbers, ranks):
    """A tuple with the rank of each number."""
    return tuple([ranks[number] for number in numbers])


def state_of(shape, numbers):
    """The state with a shape and with these numbers, ascending."""
    mine, devices, cells = shape
    there = {None: None}
    for rank, number in enumerate(numbers):
        there[(rank, 1)] = number
    return (mine, tuple([_with_ranks(stands, there) for stands in devices]),
            tuple([(there[answer], count, _ranks_of(held, there)) for answer, count, held in cells]))

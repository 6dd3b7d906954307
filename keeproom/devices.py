"""Devices: which ones fit, and how they stand after records.

A device stands in a place with the numbers that are kept there, ascending: (place, kept). One that is out is None.
"""

from keeproom.numbers import position, put_in


def fits(device, names):
    """Whether a device fits, beside these names of a plant."""
    if not 2 <= len(device) <= 5 or device[0]["mine"] or device[0]["keeps"] != 0:
        return False
    return all([_place_fits(place, device, names) for place in device])


def steps_of(device):
    """For each place of a device a dict: where it goes on, and what it keeps there, by name and position."""
    return [{(name, at): (place, keep) for name, at, place, keep in here["moves"]} for here in device]


def stands_after(steps, stands, name, number):
    """How a device stands after a record, by its steps and how it stood before."""
    if stands is None:
        return None
    place, kept = stands
    step = steps[place].get((name, position(number, kept)))
    if step is None:
        return None
    heard = put_in(number, kept)
    return (step[0], tuple([heard[index] for index in step[1]]))


def _place_fits(place, device, names):
    """Whether a place of a device fits."""
    moves = place["moves"]
    if not 0 <= place["keeps"] <= 2 or not 1 <= len(moves) <= 12:
        return False
    if len(set([move[:2] for move in moves])) < len(moves):
        return False
    return all([_move_fits(move, place, device, names) for move in moves])


def _move_fits(move, here, device, names):
    """Whether a move of a place of a device fits."""
    name, at, place, keep = move
    if name not in names or not 0 <= at <= 2 * here["keeps"] or not 0 <= place < len(device):
        return False
    there = device[place]
    if there["mine"] == here["mine"] or len(keep) != there["keeps"]:
        return False
    # At an odd position the heard number is one of the kept ones, so there is none besides them.
    many = here["keeps"] + 1 - at % 2
    return all([0 <= index < many for index in keep]) and all([a < b for a, b in zip(keep, keep[1:])])

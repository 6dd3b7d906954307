"""Orders, as callers hand them in."""

from keeproom.errors import OrdersError


def check_orders(plant, orders):
    """Refuses orders that are not strictly ascending, or have a device or a question that there is not."""
    if not _all_there(orders["devices"], len(plant.devices)):
        raise OrdersError()
    for questions in (orders["never"], orders["again"], orders["promises"]):
        if not _all_there(questions, len(plant.trees)):
            raise OrdersError()


def _all_there(numbers, many):
    """Whether the numbers are strictly ascending, each at least 0 and less than this many."""
    return all([0 <= number < many for number in numbers]) and all([a < b for a, b in zip(numbers, numbers[1:])])


def copy_of_orders(orders):
    """Orders that are the same."""
    return {key: tuple(orders[key]) for key in ("devices", "never", "again", "promises")}

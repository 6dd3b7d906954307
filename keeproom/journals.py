"""Journals: the texts of a room's events, each line with a sum over all that stands before it."""

FIRST_SUM = 1


def write_journal(events):
    """The text of a list of events."""
    lines = []
    total = FIRST_SUM
    for event in events:
        text = event_text(event)
        total = sum_after(total, text)
        lines.append(f"{text} {total}\n")
    return "".join(lines)


def event_text(event):
    """The text of an event."""
    if event[0] == "record":
        return f"h {event[1]} {event[2]}"
    orders = event[1]
    told = [orders["devices"], orders["never"], orders["again"], orders["promises"]]
    return "o " + " ".join([_digits(numbers) for numbers in told])


def sum_after(total, text):
    """The sum of a text after a sum."""
    for character in text:
        total = (total * 256 + ord(character)) % 65521
    return total


def _digits(numbers):
    """The numbers, one digit each, or - if there are none."""
    if len(numbers) == 0:
        return "-"
    return "".join([str(number) for number in numbers])

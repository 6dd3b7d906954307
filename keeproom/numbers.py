"""Numbers: fractions, as texts and as pairs (numerator, denominator) in lowest terms, and their order."""

from math import gcd


def read_number(text):
    """The pair of a number's text, None if it is none."""
    top_text, slash, bottom_text = text.partition("/")
    top = _read_integer(top_text)
    if top is None:
        return None
    if slash == "":
        return (top, 1)
    bottom = _read_natural(bottom_text)
    if bottom is None or bottom < 2 or gcd(top, bottom) != 1:
        return None
    return (top, bottom)


def write_number(pair):
    """The text of a pair in lowest terms with a denominator of at least 1."""
    top, bottom = pair
    text = _write_natural(abs(top))
    if top < 0:
        text = "-" + text
    if bottom > 1:
        text = text + "/" + _write_natural(bottom)
    return text


def less(a, b):
    """Whether the pair a is less than the pair b."""
    return a[0] * b[1] < b[0] * a[1]


def position(number, among):
    """The position of a pair among a tuple of pairs, ascending, each once."""
    rank = 0
    end = len(among)
    while rank < end:
        middle = (rank + end) // 2
        if less(among[middle], number):
            rank = middle + 1
        else:
            end = middle
    if rank < len(among) and not less(number, among[rank]):
        return 2 * rank + 1
    return 2 * rank


def put_in(number, among):
    """A tuple of pairs, ascending, each once: those of such a tuple, and the number."""
    place = position(number, among)
    if place % 2 == 1:
        return among
    rank = place // 2
    return among[:rank] + (number,) + among[rank:]


def number_for(position, among):
    """The pair for a position among a tuple of pairs, ascending, each once."""
    rank = position // 2
    if position % 2 == 1:
        return among[rank]
    if len(among) == 0:
        return (0, 1)
    if rank == 0:
        top, bottom = among[0]
        return (top - bottom, bottom)
    if rank == len(among):
        top, bottom = among[-1]
        return (top + bottom, bottom)
    return _middle(among[rank - 1], among[rank])


def _middle(a, b):
    """Half of a + b, in lowest terms."""
    top = a[0] * b[1] + b[0] * a[1]
    bottom = 2 * a[1] * b[1]
    common = gcd(top, bottom)
    return (top // common, bottom // common)


def _read_integer(text):
    """The integer of a text of digits, perhaps with a minus ahead, None if it is none."""
    if not text.startswith("-"):
        return _read_natural(text)
    value = _read_natural(text[1:])
    if value is None or value == 0:
        return None
    return -value


def _read_natural(text):
    """The integer of a text of digits without needless zeros, None if it is none."""
    # isdecimal alone would let the digits of other scripts pass.
    if not (text.isascii() and text.isdecimal()):
        return None
    if text.startswith("0") and text != "0":
        return None
    # Python refuses to turn very long texts into integers, and back, at once: so both are done piece by piece.
    head = len(text) % 64
    value = int("0" + text[:head])
    for at in range(head, len(text), 64):
        value = value * 10 ** 64 + int(text[at:at + 64])
    return value


def _write_natural(value):
    """The digits of an integer of at least 0, without needless zeros."""
    pieces = []
    while value >= 10 ** 64:
        value, piece = divmod(value, 10 ** 64)
        pieces.append(str(piece).zfill(64))
    pieces.append(str(value))
    return "".join(pieces[::-1])

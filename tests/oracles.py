"""Slow and plain readings of the document, over Fractions, against which the program is tested; and random inputs."""

import itertools
import random
from fractions import Fraction

NOW = ("now",)
NOTHING = ("nothing",)
LEAVES = (NOW, NOTHING, ("is", "a"), ("is", "b"))


def pair_of(fraction):
    return None if fraction is None else (fraction.numerator, fraction.denominator)


def text_of(fraction):
    return None if fraction is None else str(fraction)


def pairs_of(row):
    """A row of the document's texts, with pairs."""
    return [(name, pair_of(Fraction(text))) for name, text in row]


def fractions_of(row):
    return [(name, Fraction(text)) for name, text in row]


# Point 7, sentence by sentence: each answer is looked for again after each past.

def means(tree, past):
    """What a question answers after a past with Fractions."""
    if not past:
        return None
    return MEANINGS[tree[0]](tree[1:], past)


def _answered(tree, past):
    """The numbers that a question has answered at the records of the past, in order."""
    answers = [means(tree, past[:end]) for end in range(1, len(past) + 1)]
    return [answer for answer in answers if answer is not None]


def _last_answering(tree, past):
    """How many records there are up to the latest one at which the question answered; 0 if there is none."""
    return max([end for end in range(1, len(past) + 1) if means(tree, past[:end]) is not None], default=0)


def _less(fields, past):
    a, b = [means(part, past) for part in fields]
    return a if a is not None and b is not None and a < b else None


def _same(fields, past):
    a, b = [means(part, past) for part in fields]
    return a if a is not None and b is not None and a == b else None


def _if(fields, past):
    return means(fields[1] if means(fields[0], past) is not None else fields[2], past)


def _kth(numbers, k):
    return numbers[k - 1] if len(numbers) >= k else None


MEANINGS = {
    "now": lambda fields, past: past[-1][1],
    "nothing": lambda fields, past: None,
    "is": lambda fields, past: past[-1][1] if past[-1][0] == fields[0] else None,
    "less": _less,
    "same": _same,
    "if": _if,
    "last": lambda fields, past: _kth(_answered(fields[0], past)[::-1], 1),
    "first": lambda fields, past: _kth(_answered(fields[0], past), 1),
    "great": lambda fields, past: _kth(sorted(set(_answered(fields[1], past)), reverse=True), fields[0]),
    "least": lambda fields, past: _kth(sorted(set(_answered(fields[1], past))), fields[0]),
    "times": lambda fields, past: past[-1][1] if len(_answered(fields[1], past)) >= fields[0] else None,
    "circle": lambda fields, past:
        past[-1][1] if len(_answered(fields[2], past)) % fields[0] == fields[1] else None,
    "before": lambda fields, past: means(fields[0], past[:-1]),
    "since": lambda fields, past: means(fields[1], past[_last_answering(fields[0], past):]),
    "among": lambda fields, past: means(fields[1], [
        record for end, record in enumerate(past, 1) if means(fields[0], past[:end]) is not None]),
}


# Points 9 and 13 to 19: a model that is told one record after the other.

class Memory:
    """A question's cell, and the memories of its parts."""

    def __init__(self, tree):
        self.tree = tree
        self.parts = [Memory(part) for part in tree if isinstance(part, tuple)]
        self.answer = None
        self.count = 0
        self.held = ()

    def cells(self):
        return [(self.answer, self.count, self.held)] + [cell for part in self.parts for cell in part.cells()]

    def hear(self, name, number):
        word = self.tree[0]
        before = [part.answer for part in self.parts]
        for part in self.parts[:1] if word in ("since", "among") else self.parts:
            part.hear(name, number)
        if word == "since" and self.parts[0].answer is not None:
            self.parts[1] = Memory(self.tree[2])
        elif word == "since" or word == "among" and self.parts[0].answer is not None:
            self.parts[1].hear(name, number)
        told = [part.answer for part in self.parts]
        self.answer = getattr(self, "_" + word)(told, before, name, number)

    def _now(self, told, before, name, number):
        return number

    def _nothing(self, told, before, name, number):
        return None

    def _is(self, told, before, name, number):
        return number if self.tree[1] == name else None

    def _less(self, told, before, name, number):
        return told[0] if None not in told and told[0] < told[1] else None

    def _same(self, told, before, name, number):
        return told[0] if None not in told and told[0] == told[1] else None

    def _if(self, told, before, name, number):
        return told[2] if told[0] is None else told[1]

    def _last(self, told, before, name, number):
        return self.answer if told[0] is None else told[0]

    def _first(self, told, before, name, number):
        return told[0] if self.answer is None else self.answer

    def _before(self, told, before, name, number):
        return before[0]

    def _great(self, told, before, name, number):
        self._hold(told[0], -self.tree[1], None)
        return self.held[0] if len(self.held) == self.tree[1] else None

    def _least(self, told, before, name, number):
        self._hold(told[0], None, self.tree[1])
        return self.held[-1] if len(self.held) == self.tree[1] else None

    def _hold(self, answer, start, end):
        numbers = set(self.held) | ({answer} - {None})
        self.held = tuple(sorted(numbers)[start:end])

    def _times(self, told, before, name, number):
        self.count = min(self.tree[1], self.count + (told[0] is not None))
        return number if self.count == self.tree[1] else None

    def _circle(self, told, before, name, number):
        self.count = (self.count + (told[0] is not None)) % self.tree[1]
        return number if self.count == self.tree[2] else None

    def _since(self, told, before, name, number):
        return told[1]

    _among = _since


class Model:
    """A plant that has heard a row of names and Fractions."""

    def __init__(self, names, devices, trees, row=()):
        self.names = names
        self.devices = devices
        self.trees = trees
        self.row = list(row)
        self.mine = len(self.row) % 2 == 1
        self.stands = [self.stands_of(device) for device in devices]
        memories = [Memory(tree) for tree in trees]
        for name, number in self.row:
            for memory in memories:
                memory.hear(name, number)
        self.cells = [cell for memory in memories for cell in memory.cells()]
        self.answers = [memory.answer for memory in memories]

    def stands_of(self, device):
        place, kept = 0, []
        for name, number in self.row:
            below = sum(other < number for other in kept)
            at = 2 * below + (number in kept)
            found = [move for move in device[place]["moves"] if move[:2] == (name, at)]
            if not found:
                return None
            numbers = sorted({*kept, number})
            place, kept = found[0][2], [numbers[index] for index in found[0][3]]
        return (place, tuple(kept))

    def numbers(self):
        found = {answer for answer, _, _ in self.cells} - {None}
        found.update(number for _, _, held in self.cells for number in held)
        found.update(number for stands in self.stands if stands for number in stands[1])
        return sorted(found)

    def shape(self):
        """The state, with ranks for its numbers."""
        rank = {number: at for at, number in enumerate(self.numbers())}
        rank[None] = None
        stands = [None if one is None else (one[0], [rank[number] for number in one[1]]) for one in self.stands]
        cells = [(rank[answer], count, [rank[number] for number in held]) for answer, count, held in self.cells]
        return repr((self.mine, stands, cells))

    def next_ones(self):
        """The models after one record more: name by name, position by position."""
        numbers = self.numbers()
        spots = [number for pair in itertools.pairwise(numbers) for number in (pair[0], sum(pair) / 2)]
        spots = [numbers[0] - 1, *spots, numbers[-1], numbers[-1] + 1] if numbers else [Fraction(0)]
        for name, number in itertools.product(self.names, spots):
            yield Model(self.names, self.devices, self.trees, self.row + [(name, number)])


def reached(names, devices, trees, most=24):
    """The shapes in the order of point 17, each with a model that has it; one too many if there are more than most."""
    first = Model(names, devices, trees)
    found = {first.shape(): first}
    waiting = [first]
    while waiting:
        for model in waiting.pop(0).next_ones():
            if model.shape() not in found:
                found[model.shape()] = model
                waiting.append(model)
                if len(found) > most:
                    return found
    return found


# Random inputs; each caller has its own seed.

def random_tree(luck, size, names=("a", "b")):
    """A question of about this many parts."""
    if size <= 1:
        return luck.choice([NOW, NOW, NOTHING] + [("is", name) for name in names])
    if size == 2 or luck.random() < 0.5:
        part = random_tree(luck, size - 1, names)
        return luck.choice([
            ("last", part), ("first", part), ("before", part), ("great", luck.randint(1, 2), part),
            ("least", luck.randint(1, 2), part), ("times", luck.randint(1, 3), part),
            ("circle", 2, luck.randint(0, 1), part), ("circle", 3, luck.randint(0, 2), part)])
    if size > 3 and luck.random() < 0.2:
        first = luck.randint(1, size - 3)
        second = luck.randint(1, size - 2 - first)
        sizes = (first, second, size - 1 - first - second)
        return ("if", *[random_tree(luck, part, names) for part in sizes])
    first = luck.randint(1, size - 2)
    word = luck.choice(["less", "same", "since", "among", "since", "among"])
    return (word, random_tree(luck, first, names), random_tree(luck, size - 1 - first, names))


def random_number(luck):
    return luck.choice(["0", "1", "-1", "2", "-3", "1/2", "-1/2", "7/3", "5", "-5/4"])


def random_row(luck, length, names=("a", "b")):
    return [(luck.choice(names), random_number(luck)) for _ in range(length)]


def random_device(luck, names=("a", "b")):
    """A device that fits, with some moves of each place left out."""
    sides = [False, True] + [luck.random() < 0.5 for _ in range(luck.randint(0, 3))]
    keeps = [0] + [luck.choice([0, 0, 1, 2]) for _ in sides[1:]]
    device = []
    for here, mine in enumerate(sides):
        heads = list(itertools.product(names, range(2 * keeps[here] + 1)))
        moves = []
        for name, at in luck.sample(heads, luck.randint(max(1, len(heads) - 2), len(heads))):
            many = keeps[here] + 1 - at % 2
            places = [place for place, side in enumerate(sides) if side != mine and keeps[place] <= many]
            if places:
                place = luck.choice(places)
                moves.append((name, at, place, tuple(sorted(luck.sample(range(many), keeps[place])))))
        device.append({"mine": mine, "keeps": keeps[here], "moves": moves[:12]})
    if any(not place["moves"] for place in device):
        return random_device(luck, names)
    return device


def lucky(seed):
    return random.Random(seed)


# Devices that are easy to follow.

def place(mine, keeps, *moves):
    return {"mine": mine, "keeps": keeps, "moves": list(moves)}


def circling(names=("a",), many=2):
    """A device that allows all records, and keeps no numbers: it goes around its places, an even number of them."""
    return [place(here % 2 == 1, 0, *[(name, 0, (here + 1) % many, ()) for name in names]) for here in range(many)]


def saying(others, room):
    """A device that keeps nothing: the others make records with some names, the room with some."""
    return [place(False, 0, *[(name, 0, 1, ()) for name in others]),
            place(True, 0, *[(name, 0, 0, ()) for name in room])]


def trap():
    """The others say a. The room may say a; if it says b, it has to say b for ever."""
    return [place(False, 0, ("a", 0, 1, ())), place(True, 0, ("a", 0, 0, ()), ("b", 0, 2, ())),
            place(False, 0, ("a", 0, 3, ())), place(True, 0, ("b", 0, 2, ()))]


def row_of(word, text="1"):
    """A row of records with these names and one number."""
    return [(name, text) for name in word]

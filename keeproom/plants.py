"""Plants: names, devices and questions, and the shapes of what may come."""

from keeproom.devices import fits, stands_after, steps_of
from keeproom.errors import PlantError
from keeproom.memory import first_cells, hear_cells
from keeproom.numbers import number_for, write_number
from keeproom.questions import parts, read_question
from keeproom.rows import read_row
from keeproom.states import numbers_of, possible, shape_of

MOST_PARTS = 10
MOST_SHAPES = 24


class Plant:
    """A few devices, of which one is the true one, and questions about all that has happened."""

    def __init__(self, names, devices, questions):
        for at, device in enumerate(devices):
            if not fits(device, names):
                raise PlantError("device", at)
        self.names = tuple(names)
        self.devices = [steps_of(device) for device in devices]
        self.trees = []
        for at, text in enumerate(questions):
            tree = read_question(text, names)
            if tree is None:
                raise PlantError("question", at)
            self.trees.append(tree)
        if sum([parts(tree) for tree in self.trees]) > MOST_PARTS:
            raise PlantError("long", 0)
        self._reached = []
        self._number_of = {}
        self._reach_all()

    def shapes(self):
        """How many shapes are reached."""
        return len(self._reached)

    def point(self, row):
        """The point after a row: ("point", number of the shape, texts of the numbers)."""
        state = self._state_after_row(row)
        texts = tuple([write_number(number) for number in numbers_of(state)])
        return ("point", self._number_of[shape_of(state)], texts)

    def look(self, row):
        """What is seen after a row: whose turn it is, the possible devices, and the answers."""
        state = self._state_after_row(row)
        return {"mine": state[0], "possible": possible(state), "answers": self._answers(state)}

    def first_state(self):
        """The state before the first record."""
        cells = []
        for tree in self.trees:
            cells.extend(first_cells(tree))
        return (False, ((0, ()),) * len(self.devices), tuple(cells))

    def state_after(self, state, name, number):
        """The state after a record with this name and this number, a pair."""
        mine, devices, cells = state
        stands = [stands_after(steps, before, name, number) for steps, before in zip(self.devices, devices)]
        heard = []
        for tree in self.trees:
            start = len(heard)
            heard.extend(hear_cells(tree, list(cells[start:start + parts(tree)]), name, number))
        return (not mine, tuple(stands), tuple(heard))

    def _state_after_row(self, row):
        """The state after a row with texts."""
        state = self.first_state()
        for name, number in read_row(row, self.names):
            state = self.state_after(state, name, number)
        return state

    def _answers(self, state):
        """For each question the text of what it answers, or None."""
        texts = []
        start = 0
        for tree in self.trees:
            answer = state[2][start][0]
            texts.append(None if answer is None else write_number(answer))
            start += parts(tree)
        return tuple(texts)

    def _reach_all(self):
        """Numbers the shapes that are reached, in their order."""
        self._reach(shape_of(self.first_state()))
        at = 0
        while at < len(self._reached):
            self._reach_from(self._reached[at])
            at += 1

    def _reach_from(self, shape):
        """Reaches the shapes after one record more."""
        numbers = numbers_of(shape)
        for name in self.names:
            for position in range(2 * len(numbers) + 1):
                # A shape is one of the states that have it, so what comes after it tells for all of them.
                self._reach(shape_of(self.state_after(shape, name, number_for(position, numbers))))

    def _reach(self, shape):
        """Gives a shape the next number, unless it has one already."""
        if shape in self._number_of:
            return
        if len(self._reached) == MOST_SHAPES:
            raise PlantError("much", 0)
        self._number_of[shape] = len(self._reached)
        self._reached.append(shape)

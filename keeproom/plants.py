"""Plants: names, devices and questions, and the shapes of what may come."""

from keeproom.devices import fits, stands_after, steps_of
from keeproom.errors import PlantError
from keeproom.memory import first_cells, hear_cells
from keeproom.numbers import number_for, write_number
from keeproom.questions import parts, read_question
from keeproom.rows import read_row
from keeproom.states import numbers_of, possible, shape_of

MOST_PARTS = 10
MOST_SHAPES = 24


class Plant:
    """A few devices, of which one is the true one, and questions about all that has happened."""

    def __init__(self, names, devices, questions):
        for at, device in enumerate(devices):
            if not fits(device, names):
                raise PlantError("device", at)
        self.names = tuple(names)
        self.devices = [steps_of(device) for device in devices]
        self.trees = []
        for at, text in enumerate(questions):
            tree = read_question(text, names)
            if tree is None:
                raise PlantError("question", at)
            self.trees.append(tree)
        if sum([parts(tree) for tree in self.trees]) > MOST_PARTS:
            raise PlantError("long", 0)
        # The shapes that are reached, in their order, and for each of them the ways on from it.
        self.reached = []
        self.ways = []
        self._number_of = {}
        self._reach_all()

    def shapes(self):
        """How many shapes are reached."""
        return len(self.reached)

    def point(self, row):
        """The point after a row: ("point", number of the shape, texts of the numbers)."""
        state = self.state_after_row(row)
        texts = tuple([write_number(number) for number in numbers_of(state)])
        return ("point", self.shape_number(state), texts)

    def look(self, row):
        """What is seen after a row: whose turn it is, the possible devices, and the answers."""
        return self.look_at(self.state_after_row(row))

    def first_state(self):
        """The state before the first record."""
        cells = []
        for tree in self.trees:
            cells.extend(first_cells(tree))
        return (False, ((0, ()),) * len(self.devices), tuple(cells))

    def state_after(self, state, name, number):
        """The state after a record with this name and this number, a pair."""
        mine, devices, cells = state
        stands = [stands_after(steps, before, name, number) for steps, before in zip(self.devices, devices)]
        heard = []
        for tree in self.trees:
            start = len(heard)
            heard.extend(hear_cells(tree, list(cells[start:start + parts(tree)]), name, number))
        return (not mine, tuple(stands), tuple(heard))

    def state_after_row(self, row):
        """The state after a row with texts; raises RowError."""
        state = self.first_state()
        for name, number in read_row(row, self.names):
            state = self.state_after(state, name, number)
        return state

    def look_at(self, state):
        """What is seen at a state."""
        texts = [None if answer is None else write_number(answer) for answer in self.answers_at(state)]
        return {"mine": state[0], "possible": possible(state), "answers": tuple(texts)}

    def answers_at(self, state):
        """The list of what each question answers at a state: a pair, None if nothing."""
        answers = []
        start = 0
        for tree in self.trees:
            answers.append(state[2][start][0])
            start += parts(tree)
        return answers

    def shape_number(self, state):
        """The number of the shape of a state."""
        return self._number_of[shape_of(state)]

    def _reach_all(self):
        """Numbers the shapes that are reached, in their order, and finds the ways on from each of them."""
        self._reach(shape_of(self.first_state()))
        while len(self.ways) < len(self.reached):
            self.ways.append(self._ways_from(self.reached[len(self.ways)]))

    def _ways_from(self, shape):
        """The ways on from a shape, by each name and position: (name, position, number of the shape after it)."""
        numbers = numbers_of(shape)
        ways = []
        for name in self.names:
            for position in range(2 * len(numbers) + 1):
                # A shape is one of the states that have it, so what comes after it tells for all of them.
                after = self.state_after(shape, name, number_for(position, numbers))
                ways.append((name, position, self._reach(shape_of(after))))
        return ways

    def _reach(self, shape):
        """The number of a shape, which is the next one if it has none yet."""
        if shape not in self._number_of:
            if len(self.reached) == MOST_SHAPES:
                raise PlantError("much", 0)
            self._number_of[shape] = len(self.reached)
            self.reached.append(shape)
        return self._number_of[shape]

"""Memories: the cells from which a question answers, and how they hear records."""

from keeproom.meaning import answer_now
from keeproom.numbers import put_in
from keeproom.questions import parts, questions_in


def first_cells(tree):
    """The list of cells before the first record."""
    return [(None, 0, ())] * parts(tree)


def hear_cells(tree, cells, name, number):
    """The list of cells after a record with this name and this number, a pair."""
    heard = _hear_below(tree, _cells_below(tree, cells), name, number)
    told = [part_cells[0][0] for part_cells in heard]
    new = [_own_cell(tree, cells, told, name, number)]
    for part_cells in heard:
        new.extend(part_cells)
    return new


def _cells_below(tree, cells):
    """For each question that the question is made of, its cells."""
    below = []
    start = 1
    for part in questions_in(tree):
        end = start + parts(part)
        below.append(cells[start:end])
        start = end
    return below


def _hear_below(tree, below, name, number):
    """For each question that the question is made of, its cells after a record."""
    if tree[0] not in ("since", "among"):
        return [hear_cells(part, cells, name, number) for part, cells in zip(questions_in(tree), below)]
    cells_of_a = hear_cells(tree[1], below[0], name, number)
    a_answers = cells_of_a[0][0] is not None
    if a_answers and tree[0] == "since":
        return [cells_of_a, first_cells(tree[2])]
    if a_answers or tree[0] == "since":
        return [cells_of_a, hear_cells(tree[2], below[1], name, number)]
    return [cells_of_a, below[1]]


def _own_cell(tree, cells, told, name, number):
    """The question's own cell after a record, by all its cells before it and what A, B, C answer now."""
    answer, count, held = cells[0]
    word = tree[0]
    if word == "last":
        return (answer if told[0] is None else told[0], count, held)
    if word == "first":
        return (told[0] if answer is None else answer, count, held)
    if word == "before":
        return (cells[1][0], count, held)
    if word in ("since", "among"):
        return (told[1], count, held)
    if word in ("great", "least"):
        return _cell_by_order(word, tree[1], cells[0], told[0])
    if word in ("times", "circle"):
        return _cell_by_count(tree, cells[0], told[0], number)
    return (answer_now(tree, told, name, number), count, held)


def _cell_by_order(word, k, cell, told):
    """The cell of great or least, when A answers so."""
    held = cell[2] if told is None else put_in(told, cell[2])
    if word == "great":
        held = held[-k:]
        answer = held[0] if len(held) == k else None
    else:
        held = held[:k]
        answer = held[-1] if len(held) == k else None
    return (answer, cell[1], held)


def _cell_by_count(tree, cell, told, number):
    """The cell of times or circle, when A answers so at a record with this number."""
    count = cell[1]
    # In both forms K stands right before A.
    k = tree[-2]
    if told is not None:
        count = min(count + 1, k) if tree[0] == "times" else (count + 1) % tree[1]
    return (number if count == k else None, count, cell[2])

"""The records by which moves of a node are made."""

from keeproom.numbers import number_for, position, write_number
from keeproom.states import numbers_of


def record_of(state, move):
    """The record with the name of a move, and with the number for its position."""
    return (move[0], write_number(number_for(move[1], numbers_of(state))))


def is_among(state, moves, name, number):
    """Whether a record, by its name and its number, a pair, is that of one of the moves."""
    return (name, position(number, numbers_of(state))) in [move[:2] for move in moves]


def move_of_number(moves, number):
    """The move of this number, or the first one if there is none such."""
    return moves[number] if number < len(moves) else moves[0]

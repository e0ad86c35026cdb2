"""Sums, differences, products and halves of the numbers that rows tell."""

from restrow.bases import turned
from restrow.board import told
from restrow.errors import OutOfRoom


def in_room(board, row):
    """Give the row back where it tells a number; else what it came from is out of room."""
    if not board.tells(row):
        raise OutOfRoom("what comes out is below 0, or not below the room")
    return row


def check_both(board, one, other):
    """Refuse the first row wholly ahead of the second."""
    told(board, one)
    told(board, other)


def added(board, one, other):
    """Give the row of the sum."""
    check_both(board, one, other)
    # The sum is below the whole room, since it is below two rooms: so its row shows whether it fits.
    return in_room(board, [(left + right) % base for left, right, base in zip(one, other, board.bases)])


def taken(board, one, other):
    """Give the row of the first number less the second."""
    check_both(board, one, other)
    # A difference below 0 has the rests of one that is greater by the whole room, and so tells no number.
    return in_room(board, [(left - right) % base for left, right, base in zip(one, other, board.bases)])


def times(board, one, other):
    """Give the row of the product."""
    # A product may go beyond the whole room, and its row then be that of another number that fits:
    # so whether it fits isn't seen from the row.
    if board.number(one) * board.number(other) >= board.room():
        raise OutOfRoom("the product is not below the room")
    return [left * right % base for left, right, base in zip(one, other, board.bases)]


def halved(board, row):
    """Give the row of the half, rounded down, and what is left, 0 or 1."""
    # All bases are odd: so a number is odd just where the sum of its figures is.
    left = sum(told(board, row)) % 2
    half = [(rest - left) * turned(2, base) % base for rest, base in zip(row, board.bases)]
    return half, left

"""Rows of which one rest was lost or spoiled."""

from restrow.board import check_row, is_below, multiplied, number_of
from restrow.errors import Lost, NoPlace


def least_without(board, row, place):
    """Give the least number from 0 on that has all rests of the row but that at the place."""
    others = board.bases[:place] + board.bases[place + 1:]
    return number_of(board.figures(row), board.bases) % multiplied(others)


def refilled(board, row, place):
    """Give the row of the number that has all rests but that at the place, where anything may stand."""
    if not is_below(place, len(board.bases)):
        raise NoPlace("the place is not from 0 up to the count of bases less 1")
    check_row(board.bases, row, place)
    known = list(row)
    known[place] = 0
    number = least_without(board, known, place)
    # All numbers with these rests lie a product of the other bases apart, and the room is less than
    # that: so none of them is in the room if the least one isn't.
    if number >= board.room():
        raise Lost("no number has all the other rests")
    return board.rests(number)


def mended(board, row):
    """Give the row of the number, one rest of it mended where needed, and the place of that rest or None."""
    if board.tells(row):
        return list(row), None
    for place in range(len(board.bases)):
        number = least_without(board, row, place)
        if number < board.room():
            return board.rests(number), place
    raise Lost("no number's row differs from this one at just one place")

"""Which refusal for what, and which one goes first."""

import math
import unittest

from restrow import errors
from restrow.bases import turned
from restrow.board import Board
from restrow.mending import mended, refilled
from restrow.sums import added, halved, taken, times

ALL = (errors.NoBases, errors.NoRow, errors.NoNumber, errors.NoPlace, errors.NoTurn, errors.OutOfRoom, errors.Lost)

BASES = ([3, 5, 7], [3, 5, 7, 11, 13], [9, 25, 49, 121], [999995, 999997, 999999],
         [3, 5, 7, 11, 13, 17, 19, 23, 29, 31, 37, 41, 43, 47])


def compared(board, one, other):
    return board.compared(one, other)


def number(board, row):
    return board.number(row)


def figures(board, row):
    return board.figures(row)


def tells(board, row):
    return board.tells(row)


OF_TWO_ROWS = (added, taken, times, compared)
OF_A_ROW_THAT_TELLS = (halved, number)
OF_ANY_ROW = (figures, tells, mended)


def room_of(bases):
    return math.prod(bases[:-2])


def no_rows(bases):
    """Lists that are no rows: of another length, or with a rest that is none."""
    right = [1] * len(bases)
    found = [[], [0], right[:-1], right[:-2], right[1:], right + [0], right + right, [0] * 15]
    for place, base in enumerate(bases):
        for there in (-1, -base, base, base + 1, 2 * base, -10 ** 60, 10 ** 60, 10 ** 5000):
            found.append(right[:place] + [there] + right[place + 1:])
    found.append([-1] * len(bases))
    found.append(list(bases))
    # Of another length, and with wrong rests as well.
    found.append([-1] * (len(bases) - 1))
    found.append(list(bases) + [0])
    return found


def no_numbers(bases):
    """Rows that tell no number, the nearest to the room among them."""
    room, whole = room_of(bases), math.prod(bases)
    return [[beyond % base for base in bases]
            for beyond in (room, room + 1, 2 * room, room * bases[-2], whole - room, whole - 1)]


class Case(unittest.TestCase):
    def refused(self, kind, call, *handed):
        """Refused with just this class, which two wider ones take and no other one."""
        kept = [list(value) if type(value) is list else value for value in handed]
        for wide in (kind, errors.RestError, ValueError):
            with self.assertRaises(wide) as caught:
                call(*handed)
            self.assertIs(type(caught.exception), kind)
        for other in ALL:
            if other is not kind:
                self.assertNotIsInstance(caught.exception, other)
        for value, before in zip(handed, kept):
            if type(before) is list:
                self.assertEqual(value, before)


class NoBases(Case):
    def test_no_bases(self):
        for bases in ([], [3, 5], [3, 5, 9], [7, 5, 3], [3, 5, 8], [1, 3, 5], [3, 5, 1000001], [-3, 5, 7]):
            self.refused(errors.NoBases, Board, bases)


class NoTurn(Case):
    def test_no_turn(self):
        self.refused(errors.NoTurn, turned, 6, 9)
        self.refused(errors.NoTurn, turned, 0, 9)


class OutOfRoom(Case):
    def test_out_of_room(self):
        for bases in BASES:
            board, room = Board(bases), room_of(bases)
            for beyond in (-1, room, room + 1, -10 ** 60, 10 ** 60):
                self.refused(errors.OutOfRoom, board.rests, beyond)
            top, one, nought = board.rests(room - 1), board.rests(1), board.rests(0)
            self.refused(errors.OutOfRoom, added, board, top, one)
            self.refused(errors.OutOfRoom, added, board, one, top)
            self.refused(errors.OutOfRoom, taken, board, nought, one)
            self.refused(errors.OutOfRoom, taken, board, one, top)
            self.refused(errors.OutOfRoom, times, board, top, board.rests(2))
            self.refused(errors.OutOfRoom, times, board, top, top)


class Rows(Case):
    def test_no_row(self):
        for bases in BASES:
            board = Board(bases)
            for row in no_rows(bases):
                for call in OF_ANY_ROW + OF_A_ROW_THAT_TELLS:
                    self.refused(errors.NoRow, call, board, row)

    def test_no_number(self):
        for bases in BASES:
            board = Board(bases)
            for row in no_numbers(bases):
                for call in OF_A_ROW_THAT_TELLS:
                    self.refused(errors.NoNumber, call, board, row)

    def test_rows_that_tell_no_number_are_rows(self):
        for bases in BASES:
            board = Board(bases)
            for row in no_numbers(bases):
                self.assertEqual(len(board.figures(row)), len(bases))
                self.assertIs(board.tells(row), False)

    def test_a_row_over_another_board(self):
        self.refused(errors.NoRow, number, Board([3, 5, 7]), Board([3, 5, 7, 11]).rests(1))
        self.refused(errors.NoRow, number, Board([3, 5, 7, 11]), Board([3, 5, 7]).rests(1))
        self.refused(errors.NoRow, number, Board([3, 5, 7]), [0, 1, 8])

    def test_a_number_goes_through_behind_a_refusal(self):
        board = Board([3, 5, 7, 11])
        self.refused(errors.NoRow, number, board, [3, 0, 0, 0])
        self.refused(errors.NoNumber, number, board, [0, 0, 0, 1])
        self.assertEqual(board.number([2, 3, 1, 8]), 8)


class TwoRows(Case):
    def test_one_of_them_is_no_row(self):
        for bases in BASES:
            board = Board(bases)
            good = board.rests(room_of(bases) - 1)
            for row in no_rows(bases):
                for call in OF_TWO_ROWS:
                    self.refused(errors.NoRow, call, board, row, good)
                    self.refused(errors.NoRow, call, board, good, row)

    def test_one_of_them_tells_no_number(self):
        for bases in BASES:
            board = Board(bases)
            for good in (board.rests(0), board.rests(room_of(bases) - 1)):
                for row in no_numbers(bases):
                    for call in OF_TWO_ROWS:
                        self.refused(errors.NoNumber, call, board, row, good)
                        self.refused(errors.NoNumber, call, board, good, row)

    def test_both_are_wrong(self):
        for bases in BASES:
            board = Board(bases)
            for no_number in no_numbers(bases)[:2]:
                for no_row in no_rows(bases):
                    for call in OF_TWO_ROWS:
                        # The first one is looked at wholly ahead of the second.
                        self.refused(errors.NoNumber, call, board, no_number, no_row)
                        self.refused(errors.NoRow, call, board, no_row, no_number)

    def test_both_are_wrong_alike(self):
        for bases in BASES:
            board = Board(bases)
            no_row, no_number = no_rows(bases)[2], no_numbers(bases)[0]
            for call in OF_TWO_ROWS:
                self.refused(errors.NoRow, call, board, no_row, no_row)
                self.refused(errors.NoRow, call, board, no_row, [-1] * len(bases))
                self.refused(errors.NoNumber, call, board, no_number, no_number)
                self.refused(errors.NoNumber, call, board, no_number, no_numbers(bases)[-1])

    def test_a_row_is_looked_at_ahead_of_what_comes_out(self):
        # Nought times anything fits, and a row less itself does: it is refused all the same.
        for bases in BASES:
            board = Board(bases)
            nought, top = board.rests(0), board.rests(room_of(bases) - 1)
            for no_number in no_numbers(bases):
                self.refused(errors.NoNumber, times, board, nought, no_number)
                self.refused(errors.NoNumber, times, board, no_number, nought)
                self.refused(errors.NoNumber, taken, board, no_number, no_number)
                self.refused(errors.NoNumber, compared, board, no_number, no_number)
                self.refused(errors.NoNumber, added, board, top, no_number)
                self.refused(errors.NoNumber, taken, board, nought, no_number)


class Places(Case):
    def test_no_place(self):
        for bases in BASES:
            board, count = Board(bases), len(bases)
            for place in (-1, -2, -count, -count - 1, count, count + 1, 15, -10 ** 60, 10 ** 60):
                self.refused(errors.NoPlace, refilled, board, board.rests(1), place)

    def test_no_place_goes_ahead_of_all_else(self):
        for bases in BASES:
            board, count = Board(bases), len(bases)
            for place in (-1, -count, count, count + 1):
                for row in no_rows(bases) + no_numbers(bases):
                    self.refused(errors.NoPlace, refilled, board, row, place)
                self.refused(errors.NoPlace, refilled, board, [None] * count, place)

    def test_refilled_refuses_another_length(self):
        for bases in BASES:
            board, count = Board(bases), len(bases)
            for place in range(count):
                for row in ([], [0], [1] * (count - 1), [1] * (count + 1), [0] * 15, [0] * (2 * count)):
                    self.refused(errors.NoRow, refilled, board, row, place)
                for row in ([1] * (count - 1), [1] * (count + 1)):
                    if place < len(row):
                        row[place] = None
                        self.refused(errors.NoRow, refilled, board, row, place)

    def test_refilled_refuses_other_rests(self):
        for bases in BASES:
            board, count = Board(bases), len(bases)
            for place in range(count):
                for other in range(count):
                    if other != place:
                        for there in (-1, -bases[other], bases[other], bases[other] + 1, 10 ** 60):
                            row = [1] * count
                            row[other] = there
                            self.refused(errors.NoRow, refilled, board, row, place)
                            row[place] = None
                            self.refused(errors.NoRow, refilled, board, row, place)

    def test_no_row_goes_ahead_of_lost(self):
        board = Board([3, 5, 7, 11])
        self.refused(errors.Lost, refilled, board, [1, 1, 2, None], 3)
        self.refused(errors.NoRow, refilled, board, [1, 5, 2, None], 3)
        self.refused(errors.NoRow, refilled, board, [1, 1, 2], 2)
        self.refused(errors.Lost, mended, board, [0, 0, 1, 1])
        self.refused(errors.NoRow, mended, board, [0, 0, 1, 11])
        self.refused(errors.NoRow, mended, board, [0, 0, 1])


class LostRows(Case):
    def test_refilled(self):
        for bases in BASES:
            board = Board(bases)
            for place in range(1, len(bases)):
                row = board.rests(room_of(bases) - 1)
                row[0] = 0
                row[place] = None
                self.refused(errors.Lost, refilled, board, row, place)

    def test_mended(self):
        self.refused(errors.Lost, mended, Board([3, 5, 7]), [0, 1, 2])
        self.refused(errors.Lost, mended, Board([999995, 999997, 999999]), [0, 1, 2])
        self.refused(errors.Lost, mended, Board([3, 5, 7, 11]), [0, 0, 1, 1])
        self.refused(errors.Lost, mended, Board([9, 25, 49, 121]), [0, 0, 1, 1])


if __name__ == "__main__":
    unittest.main()

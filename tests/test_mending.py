"""Rows with a lost rest or a spoiled one, held against all numbers where the room is small."""

import math
import random
import unittest

from restrow.board import Board
from restrow.errors import Lost
from restrow.mending import mended, refilled

SMALL = ([3, 5, 7], [3, 5, 7, 11], [9, 11, 13], [5, 7, 9, 11], [3, 5, 7, 11, 13])
FIRST_PRIMES = [3, 5, 7, 11, 13, 17, 19, 23, 29, 31, 37, 41, 43, 47]
# Fourteen bases near the upper end, all of them prime.
HIGH_PRIMES = [999763, 999769, 999773, 999809, 999853, 999863, 999883,
               999907, 999917, 999931, 999953, 999959, 999961, 999979]
GREAT = (HIGH_PRIMES, HIGH_PRIMES[:5], FIRST_PRIMES, FIRST_PRIMES[3:10], [999995, 999997, 999999],
         [5, 999997, 999999], [3, 5, 7, 999983, 999997], [9, 25, 49, 121, 169, 289])
LOST = "Lost"


def room_of(bases):
    return math.prod(bases[:-2])


def row_of(number, bases):
    return [number % base for base in bases]


def some_numbers(limit, seed):
    chance = random.Random(seed)
    picked = {0, 1, limit // 2, limit // 3, limit - 2, limit - 1}
    picked |= {chance.randrange(limit) for _ in range(6)}
    return sorted(number for number in picked if 0 <= number < limit)


def wrong_rests(right, base):
    """Some of the other rests over the base, its neighbours and the ends among them."""
    picked = {0, base - 1, (right + 1) % base, (right - 1) % base, (right + base // 2) % base}
    return sorted(picked - {right})


def least(bases, row, place):
    """The least number with all rests of the row but that at the place, by way of each other base."""
    others = [at for at in range(len(bases)) if at != place]
    around = math.prod(bases[at] for at in others)
    parts = [around // bases[at] for at in others]
    return sum(row[at] * part * pow(part, -1, bases[at]) for at, part in zip(others, parts)) % around


def mended_by_arithmetic(bases, row):
    found = [(least(bases, row, place), place) for place in range(len(bases))]
    fitting = [(number, place) for number, place in found if number < room_of(bases)]
    return (row_of(fitting[0][0], bases), fitting[0][1]) if fitting else LOST


class Case(unittest.TestCase):
    def is_row(self, row, due):
        self.assertIs(type(row), list)
        self.assertTrue(all(type(rest) is int for rest in row))
        self.assertEqual(row, due)

    def check_refilled(self, board, row, place, due):
        kept = list(row)
        if due == LOST:
            with self.assertRaises(Lost) as caught:
                refilled(board, row, place)
            self.assertIs(type(caught.exception), Lost)
        else:
            found = refilled(board, row, place)
            self.is_row(found, due)
            self.assertIsNot(found, row)
            found[0] = -1
        self.assertEqual(row, kept)

    def check_mended(self, board, row, due):
        kept = list(row)
        if due == LOST:
            with self.assertRaises(Lost) as caught:
                mended(board, row)
            self.assertIs(type(caught.exception), Lost)
        else:
            pair = mended(board, row)
            self.assertIs(type(pair), tuple)
            self.assertEqual(len(pair), 2)
            self.is_row(pair[0], due[0])
            self.assertEqual(pair[1], due[1])
            self.assertIs(type(pair[1]), type(due[1]))
            self.assertIsNot(pair[0], row)
            pair[0][0] = -1
        self.assertEqual(row, kept)


class Refilled(Case):
    def test_known_rows(self):
        board = Board([3, 5, 7, 11])
        for place in range(4):
            row = [2, 3, 1, 8]
            row[place] = None
            self.check_refilled(board, row, place, [2, 3, 1, 8])
        self.check_refilled(board, [0, 0, 0, 1], 3, [0, 0, 0, 0])
        self.check_refilled(board, [1, 1, 1, 2], 0, LOST)

    def test_every_place_of_every_number_of_small_rooms(self):
        for bases in SMALL:
            board = Board(bases)
            for number in range(room_of(bases)):
                for place in range(len(bases)):
                    row = row_of(number, bases)
                    for there in [None, -1, bases[place], 10 ** 60] + list(range(bases[place])):
                        row[place] = there
                        self.check_refilled(board, row, place, row_of(number, bases))

    def test_all_rows_of_small_boards_held_against_all_numbers(self):
        for bases in SMALL:
            board = Board(bases)
            for place in range(len(bases)):
                with_rests = {}
                for number in range(room_of(bases)):
                    row = row_of(number, bases)
                    key = tuple(row[:place] + row[place + 1:])
                    # There is one at most.
                    self.assertNotIn(key, with_rests)
                    with_rests[key] = row
                for number in range(math.prod(bases)):
                    row = row_of(number, bases)
                    key = tuple(row[:place] + row[place + 1:])
                    self.check_refilled(board, row, place, with_rests.get(key, LOST))

    def test_every_place_of_great_boards(self):
        for bases in GREAT:
            board = Board(bases)
            for number in some_numbers(room_of(bases), 1):
                for place in range(len(bases)):
                    row = row_of(number, bases)
                    for there in [None, -1, -10 ** 60, bases[place], 10 ** 5000, row[place]] + wrong_rests(
                            row[place], bases[place]):
                        row[place] = there
                        self.check_refilled(board, row, place, row_of(number, bases))

    def test_another_rest_is_wrong(self):
        for bases in SMALL + GREAT:
            board = Board(bases)
            for number in some_numbers(room_of(bases), 2)[-4:]:
                for place in range(len(bases)):
                    for other in range(len(bases)):
                        if other != place:
                            row = row_of(number, bases)
                            row[other] = (row[other] + 1 + number % (bases[other] - 1)) % bases[other]
                            row[place] = None
                            self.check_refilled(board, row, place, LOST)

    def test_numbers_of_the_whole_room(self):
        for bases in GREAT:
            board = Board(bases)
            room = room_of(bases)
            for number in some_numbers(math.prod(bases), 3) + [room, room + 1, room * bases[-2], room * bases[-1]]:
                row = row_of(number, bases)
                for place in range(len(bases)):
                    found = least(bases, row, place)
                    self.check_refilled(board, row, place, row_of(found, bases) if found < room else LOST)

    def test_just_within_and_just_beyond_the_room(self):
        for bases in SMALL + GREAT:
            board = Board(bases)
            room = room_of(bases)
            for place in range(len(bases)):
                for number in (room - 1, room, room + 1):
                    row = row_of(number, bases)
                    row[place] = None
                    self.check_refilled(board, row, place, row_of(number, bases) if number < room else LOST)


class Mended(Case):
    def test_known_rows(self):
        board = Board([3, 5, 7, 11])
        self.check_mended(board, [2, 3, 1, 8], ([2, 3, 1, 8], None))
        self.check_mended(board, [0, 3, 1, 8], ([2, 3, 1, 8], 0))
        self.check_mended(board, [2, 4, 1, 8], ([2, 3, 1, 8], 1))
        self.check_mended(board, [2, 3, 0, 8], ([2, 3, 1, 8], 2))
        self.check_mended(board, [2, 3, 1, 0], ([2, 3, 1, 8], 3))
        self.check_mended(board, [0, 0, 1, 1], LOST)

    def test_all_rows_of_small_boards_held_against_all_numbers(self):
        for bases in SMALL:
            board = Board(bases)
            due = {}
            for number in range(room_of(bases)):
                right = row_of(number, bases)
                due[tuple(right)] = (right, None)
            for number in range(room_of(bases)):
                right = row_of(number, bases)
                for place, base in enumerate(bases):
                    for there in range(base):
                        if there != right[place]:
                            row = right[:place] + [there] + right[place + 1:]
                            # There is one such number at most.
                            self.assertNotIn(tuple(row), due)
                            due[tuple(row)] = (right, place)
            for number in range(math.prod(bases)):
                row = row_of(number, bases)
                self.check_mended(board, row, due.get(tuple(row), LOST))

    def test_right_rows_of_great_boards(self):
        for bases in GREAT:
            board = Board(bases)
            for number in some_numbers(room_of(bases), 4):
                self.check_mended(board, row_of(number, bases), (row_of(number, bases), None))

    def test_one_wrong_rest_at_every_place_of_great_boards(self):
        for bases in GREAT:
            board = Board(bases)
            for number in some_numbers(room_of(bases), 5):
                right = row_of(number, bases)
                for place in range(len(bases)):
                    for there in wrong_rests(right[place], bases[place]):
                        row = right[:place] + [there] + right[place + 1:]
                        self.check_mended(board, row, (right, place))

    def test_two_and_three_wrong_rests_of_great_boards(self):
        chance = random.Random(6)
        lost = 0
        for bases in GREAT:
            board = Board(bases)
            for number in some_numbers(room_of(bases), 7):
                for many in (2, 3, 2, 3):
                    row = row_of(number, bases)
                    for place in chance.sample(range(len(bases)), many):
                        row[place] = (row[place] + chance.randrange(1, bases[place])) % bases[place]
                    due = mended_by_arithmetic(bases, row)
                    self.assertNotEqual(due, (row_of(number, bases), None))
                    lost += due == LOST
                    self.check_mended(board, row, due)
        self.assertGreater(lost, 100)

    def test_rows_just_beyond_the_room(self):
        for bases in SMALL + GREAT:
            board = Board(bases)
            room = room_of(bases)
            for number in (room, room + 1, 2 * room, room * bases[-2], room * bases[-1], math.prod(bases) - 1):
                row = row_of(number, bases)
                self.check_mended(board, row, mended_by_arithmetic(bases, row))

    def test_what_was_mended_stays_mended(self):
        board = Board(FIRST_PRIMES)
        row = board.rests(room_of(FIRST_PRIMES) // 7)
        row[4] = (row[4] + 6) % 13
        found, place = mended(board, row)
        self.assertEqual(place, 4)
        self.assertEqual(mended(board, found), (found, None))
        self.assertEqual(refilled(board, row, 4), found)

    def test_a_refusal_does_not_hinder_the_next_call(self):
        board = Board([3, 5, 7, 11])
        self.check_mended(board, [0, 0, 1, 1], LOST)
        self.check_refilled(board, [1, 1, 1, 2], 0, LOST)
        self.check_mended(board, [2, 3, 1, 0], ([2, 3, 1, 8], 3))
        self.check_refilled(board, [2, None, 1, 8], 1, [2, 3, 1, 8])
        self.assertEqual(board.bases, [3, 5, 7, 11])


if __name__ == "__main__":
    unittest.main()

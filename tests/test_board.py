"""Boards: their bases, room, rests, figures, and what rows tell."""

import math
import random
import unittest

from restrow.board import Board
from restrow.errors import NoBases, OutOfRoom

SMALL = ([3, 5, 7], [3, 5, 7, 11], [9, 11, 13], [9, 25, 49], [5, 7, 9, 11], [3, 5, 7, 11, 13])
FIRST_PRIMES = [3, 5, 7, 11, 13, 17, 19, 23, 29, 31, 37, 41, 43, 47]


def greatest_bases(count):
    """The greatest odd numbers up to 999999 that have no common divisor, taken from the top."""
    found = []
    number = 999999
    while len(found) < count:
        if all(math.gcd(number, other) == 1 for other in found):
            found.append(number)
        number -= 2
    return found[::-1]


GREAT = (greatest_bases(14), greatest_bases(7), greatest_bases(3), FIRST_PRIMES, [5, 999997, 999999],
         [3, 5, 7, 9997, 99997, 999983], [121, 169, 289, 361, 529, 841, 961, 1369, 1681, 1849, 2209])


def room_of(bases):
    return math.prod(bases[:-2])


def row_of(number, bases):
    return [number % base for base in bases]


def figures_of(number, bases):
    """The figures by plain division, one after the other."""
    figures = []
    for base in bases:
        figures.append(number % base)
        number //= base
    return figures


def some_numbers(limit, seed):
    """Numbers from 0 up to the limit less 1: the ends, the middle and some between."""
    chance = random.Random(seed)
    picked = {0, 1, 2, limit // 3, limit // 2 - 1, limit // 2, limit // 2 + 1, limit - 2, limit - 1}
    picked |= {chance.randrange(limit) for _ in range(20)}
    return sorted(number for number in picked if 0 <= number < limit)


class Case(unittest.TestCase):
    def is_row(self, row, due):
        self.assertIs(type(row), list)
        self.assertTrue(all(type(rest) is int for rest in row))
        self.assertEqual(row, due)

    def is_number(self, value, due):
        self.assertIs(type(value), int)
        self.assertEqual(value, due)


class Bases(Case):
    def taken_as_bases(self, bases):
        kept = list(bases)
        board = Board(bases)
        self.assertIs(type(board.bases), list)
        self.assertEqual(board.bases, kept)
        self.assertEqual(bases, kept)
        self.assertIsNot(board.bases, bases)

    def refused(self, bases):
        kept = list(bases)
        with self.assertRaises(NoBases) as caught:
            Board(bases)
        self.assertIs(type(caught.exception), NoBases)
        self.assertEqual(bases, kept)

    def test_ordinary_lists(self):
        for bases in SMALL + GREAT:
            with self.subTest(bases):
                self.taken_as_bases(bases)

    def test_each_count_from_three_to_fourteen(self):
        for count in range(3, 15):
            self.taken_as_bases(FIRST_PRIMES[:count])
            self.taken_as_bases(FIRST_PRIMES[-count:])
            self.taken_as_bases(greatest_bases(count))

    def test_too_few(self):
        for bases in ([], [3], [999999], [3, 5], [999997, 999999]):
            self.refused(bases)

    def test_too_many(self):
        self.refused(FIRST_PRIMES + [53])
        self.refused(FIRST_PRIMES + [53, 59])
        self.refused(greatest_bases(15))
        self.refused(list(range(3, 200001, 2)))

    def test_even_ones(self):
        for bases in ([4, 5, 7], [3, 4, 7], [3, 5, 8], [2, 3, 5], [3, 5, 999998], [7, 9, 16, 25],
                      FIRST_PRIMES[:13] + [64]):
            self.refused(bases)

    def test_too_small(self):
        for bases in ([1, 3, 5], [0, 3, 5], [2, 3, 5], [-1, 3, 5], [-3, 5, 7], [-7, -5, -3], [-5, 3, 7],
                      [-10 ** 60 - 1, 3, 5, 7], [1, 5, 7], [0, 1, 2], [1, 1, 1], [0, 0, 0], [3, 5, -7], [3, 5, 1]):
            self.refused(bases)

    def test_the_least_and_the_greatest(self):
        self.taken_as_bases([3, 5, 7])
        self.taken_as_bases([5, 17, 999999])
        self.taken_as_bases([999995, 999997, 999999])

    def test_too_great(self):
        for great in (1000000, 1000001, 1000003, 1999999, 10 ** 60 + 7, 10 ** 5000 + 1):
            self.refused([3, 5, great])
            self.refused([7, 11, 13, great])
        self.refused([1000001, 1000003, 1000005])

    def test_the_same_twice(self):
        for bases in ([3, 3, 5], [3, 5, 5], [3, 3, 3], [3, 5, 7, 7], [3, 5, 7, 7, 11], [3, 5, 3]):
            self.refused(bases)

    def test_not_rising(self):
        self.refused([7, 5, 3])
        self.refused(FIRST_PRIMES[::-1])
        for place in range(13):
            bases = list(FIRST_PRIMES)
            bases[place], bases[place + 1] = bases[place + 1], bases[place]
            self.refused(bases)
        for place in range(1, 14):
            bases = list(FIRST_PRIMES)
            bases[0], bases[place] = bases[place], bases[0]
            self.refused(bases)

    def test_common_divisors_of_neighbours(self):
        for bases in ([3, 9, 11], [5, 9, 15], [7, 9, 15], [15, 21, 23], [5, 7, 49], [3, 999993, 999999],
                      [7, 999993, 999999], [35, 77, 81], [3, 5, 7, 9, 15]):
            self.refused(bases)

    def test_common_divisors_far_apart(self):
        for bases in ([3, 5, 9], [9, 11, 15], [3, 5, 7, 11, 999999], [15, 17, 19, 25], [77, 79, 81, 83, 121],
                      [35, 37, 39, 41, 49]):
            self.refused(bases)
        for place in range(13):
            self.refused(FIRST_PRIMES[:13] + [FIRST_PRIMES[place] * 101])
            self.refused(FIRST_PRIMES[:13] + [FIRST_PRIMES[place] * 1009])

    def test_bases_need_not_be_prime(self):
        for bases in ([9, 25, 49], [15, 77, 169], [3, 25, 49, 121], [105, 143, 323, 667]):
            self.taken_as_bases(bases)

    def test_the_list_that_was_handed_in_may_change_later(self):
        handed = [3, 5, 7, 11, 13]
        board = Board(handed)
        row = board.rests(104)
        handed[0] = 9
        handed.append(17)
        self.assertEqual(board.bases, [3, 5, 7, 11, 13])
        self.is_number(board.room(), 105)
        self.is_row(board.rests(104), row)
        self.is_number(board.number(row), 104)
        handed.clear()
        self.assertEqual(board.bases, [3, 5, 7, 11, 13])
        self.is_number(board.number(row), 104)
        self.is_row(board.figures(row), [2, 4, 6, 0, 0])

    def test_boards_do_not_hinder_each_other(self):
        handed = [3, 5, 7, 11]
        one, same, other = Board(handed), Board(handed), Board([5, 9, 11, 13, 17])
        self.assertIsNot(one.bases, same.bases)
        self.is_number(one.room(), 15)
        self.is_number(other.room(), 495)
        for number in range(15):
            self.is_row(one.rests(number), row_of(number, [3, 5, 7, 11]))
            self.is_row(other.rests(number * 33), row_of(number * 33, [5, 9, 11, 13, 17]))
            self.is_row(same.rests(number), row_of(number, [3, 5, 7, 11]))
            self.is_number(one.number(one.rests(number)), number)
            self.is_number(other.number(other.rests(number * 33)), number * 33)
            self.is_row(other.figures(other.rests(number)), figures_of(number, other.bases))
            self.is_row(same.figures(one.rests(number)), figures_of(number, one.bases))
        self.assertEqual(one.bases, [3, 5, 7, 11])
        self.assertEqual(other.bases, [5, 9, 11, 13, 17])
        with self.assertRaises(NoBases):
            Board([3, 3, 3])
        self.is_number(one.room(), 15)


class RoomAndRests(Case):
    def test_room(self):
        self.is_number(Board([3, 5, 7]).room(), 3)
        self.is_number(Board([3, 5, 7, 11]).room(), 15)
        self.is_number(Board([9, 25, 49]).room(), 9)
        self.is_number(Board([3, 5, 7, 11, 13]).room(), 105)
        for bases in SMALL + GREAT:
            self.is_number(Board(bases).room(), room_of(bases))

    def test_known_rests(self):
        board = Board([3, 5, 7, 11])
        self.is_row(board.rests(0), [0, 0, 0, 0])
        self.is_row(board.rests(1), [1, 1, 1, 1])
        self.is_row(board.rests(8), [2, 3, 1, 8])
        self.is_row(board.rests(14), [2, 4, 0, 3])

    def test_rests_of_all_numbers_of_small_rooms(self):
        for bases in SMALL:
            board = Board(bases)
            for number in range(room_of(bases)):
                row = board.rests(number)
                self.is_row(row, row_of(number, bases))
                self.assertIs(board.tells(row), True)
                self.is_number(board.number(row), number)

    def test_rests_of_numbers_of_great_rooms(self):
        for bases in GREAT:
            board = Board(bases)
            for number in some_numbers(room_of(bases), 1):
                row = board.rests(number)
                self.is_row(row, row_of(number, bases))
                self.assertIs(board.tells(row), True)
                self.is_number(board.number(row), number)

    def test_out_of_room(self):
        for bases in SMALL + GREAT:
            board = Board(bases)
            room, whole = room_of(bases), math.prod(bases)
            for number in (-1, -2, -room, -whole, -10 ** 5000, room, room + 1, 2 * room, whole - 1, whole, whole + 1,
                           10 ** 5000):
                with self.assertRaises(OutOfRoom):
                    board.rests(number)
            self.is_row(board.rests(room - 1), row_of(room - 1, bases))
            self.is_row(board.rests(0), [0] * len(bases))

    def test_rows_that_came_out_may_be_changed(self):
        for bases in (SMALL[-1], GREAT[0]):
            board = Board(bases)
            number = room_of(bases) - 1
            row = board.rests(number)
            other = board.rests(number)
            self.assertIsNot(row, other)
            row[0] = 99
            row.append(5)
            self.is_row(other, row_of(number, bases))
            self.is_row(board.rests(number), row_of(number, bases))
            nought = board.rests(0)
            nought[-1] = 1
            self.is_row(board.rests(0), [0] * len(bases))
            figures = board.figures(other)
            figures[0] = -1
            figures.clear()
            self.is_row(board.figures(other), figures_of(number, bases))
            self.is_number(board.number(other), number)
            self.assertEqual(board.bases, bases)


class Figures(Case):
    def held_against_the_document(self, board, bases, number):
        row = row_of(number, bases)
        kept = list(row)
        figures = board.figures(row)
        self.is_row(figures, figures_of(number, bases))
        self.assertEqual(len(figures), len(bases))
        total = 0
        for place, figure in enumerate(figures):
            self.assertTrue(0 <= figure < bases[place])
            total += figure * math.prod(bases[:place])
        self.assertEqual(total, number)
        self.assertIs(board.tells(row), number < room_of(bases))
        self.assertIs(board.tells(row), figures[-2:] == [0, 0])
        self.assertEqual(row, kept)

    def test_known_figures(self):
        board = Board([3, 5, 7])
        self.is_row(board.figures([0, 0, 0]), [0, 0, 0])
        self.is_row(board.figures([2, 2, 2]), [2, 0, 0])
        self.is_row(board.figures([0, 3, 3]), [0, 1, 0])
        self.is_row(board.figures([0, 0, 1]), [0, 0, 1])
        self.is_row(board.figures([2, 4, 6]), [2, 4, 6])

    def test_all_rows_of_small_boards(self):
        for bases in SMALL:
            board = Board(bases)
            for number in range(math.prod(bases)):
                self.held_against_the_document(board, bases, number)

    def test_rows_of_great_boards(self):
        for bases in GREAT:
            board = Board(bases)
            room, whole = room_of(bases), math.prod(bases)
            numbers = some_numbers(room, 2) + some_numbers(whole, 3)
            numbers += [room, room + 1, 2 * room, room * bases[-2] - 1, room * bases[-2], room * bases[-2] + 1]
            for number in numbers:
                self.held_against_the_document(board, bases, number)

    def test_the_spans(self):
        # The product of all bases ahead of one has the figure 1 there, and 0 else.
        for bases in SMALL + GREAT:
            board = Board(bases)
            for place in range(len(bases)):
                span = math.prod(bases[:place])
                figures = [0] * len(bases)
                figures[place] = 1
                self.is_row(board.figures(row_of(span, bases)), figures)

    def test_the_greatest_rests(self):
        # The row of the whole room less 1: each rest and each figure is the base less 1.
        for bases in SMALL + GREAT:
            row = [base - 1 for base in bases]
            self.is_row(Board(bases).figures(row), row)
            self.assertIs(Board(bases).tells(row), False)

    def test_only_one_of_the_last_two_figures(self):
        for bases in SMALL + GREAT:
            board = Board(bases)
            room = room_of(bases)
            for number in (room, room + 1, room * (bases[-2] - 1), room * bases[-2], room * bases[-2] + 1,
                           room * bases[-2] * (bases[-1] - 1)):
                self.assertIs(board.tells(row_of(number, bases)), False)


class Compared(Case):
    def held(self, board, bases, one, other):
        first, second = row_of(one, bases), row_of(other, bases)
        self.is_number(board.compared(first, second), (one > other) - (one < other))
        self.assertEqual(first, row_of(one, bases))
        self.assertEqual(second, row_of(other, bases))

    def test_all_pairs_of_small_rooms(self):
        for bases in SMALL:
            board = Board(bases)
            for one in range(room_of(bases)):
                for other in range(room_of(bases)):
                    self.held(board, bases, one, other)

    def test_pairs_of_great_rooms(self):
        for bases in GREAT:
            board = Board(bases)
            numbers = some_numbers(room_of(bases), 4)
            for one in numbers:
                for other in numbers:
                    self.held(board, bases, one, other)

    def test_neighbours(self):
        for bases in GREAT:
            board = Board(bases)
            for place in range(1, len(bases) - 2):
                span = math.prod(bases[:place])
                for one, other in ((span - 1, span), (span, span + 1), (span, span - 1), (2 * span - 1, 2 * span)):
                    self.held(board, bases, one, other)

    def test_the_same_list_twice(self):
        for bases in SMALL + GREAT:
            board = Board(bases)
            for number in some_numbers(room_of(bases), 5):
                row = board.rests(number)
                self.is_number(board.compared(row, row), 0)
                self.assertEqual(row, row_of(number, bases))


if __name__ == "__main__":
    unittest.main()

"""Sums, differences, products and halves, held against plain numbers."""

import math
import random
import unittest

from restrow.board import Board
from restrow.errors import OutOfRoom
from restrow.sums import added, halved, taken, times

SMALL = ([3, 5, 7], [3, 5, 7, 11], [9, 25, 49], [5, 7, 9, 11], [3, 5, 7, 11, 13])
FIRST_PRIMES = [3, 5, 7, 11, 13, 17, 19, 23, 29, 31, 37, 41, 43, 47]
# Fourteen bases near the upper end, all of them prime.
HIGH_PRIMES = [999763, 999769, 999773, 999809, 999853, 999863, 999883,
               999907, 999917, 999931, 999953, 999959, 999961, 999979]
GREAT = (HIGH_PRIMES, HIGH_PRIMES[:5], FIRST_PRIMES, FIRST_PRIMES[2:11], [5, 7, 9, 11, 13], [9, 11, 13, 17, 19],
         [999995, 999997, 999999], [3, 5, 7, 999983, 999997])


def room_of(bases):
    return math.prod(bases[:-2])


def row_of(number, bases):
    return [number % base for base in bases]


def some_numbers(limit, seed):
    chance = random.Random(seed)
    picked = {0, 1, 2, 3, limit // 3, limit // 2 - 1, limit // 2, limit // 2 + 1, limit - 2, limit - 1}
    picked |= {math.isqrt(limit) + far for far in (-1, 0, 1)}
    picked |= {chance.randrange(limit) for _ in range(12)}
    return sorted(number for number in picked if 0 <= number < limit)


class Case(unittest.TestCase):
    def held(self, call, bases, one, other, due):
        """The row of what is due, or OutOfRoom; and both rows stay."""
        board = Board(bases)
        first, second = row_of(one, bases), row_of(other, bases)
        if 0 <= due < room_of(bases):
            row = call(board, first, second)
            self.assertIs(type(row), list)
            self.assertTrue(all(type(rest) is int for rest in row))
            self.assertEqual(row, row_of(due, bases))
            self.assertIsNot(row, first)
            self.assertIsNot(row, second)
            row[0] = -1
        else:
            with self.assertRaises(OutOfRoom) as caught:
                call(board, first, second)
            self.assertIs(type(caught.exception), OutOfRoom)
        self.assertEqual(first, row_of(one, bases))
        self.assertEqual(second, row_of(other, bases))
        self.assertEqual(board.bases, bases)

    def all_pairs(self, call, plain):
        for bases in SMALL:
            for one in range(room_of(bases)):
                for other in range(room_of(bases)):
                    self.held(call, bases, one, other, plain(one, other))

    def great_pairs(self, call, plain, seed):
        for bases in GREAT:
            numbers = some_numbers(room_of(bases), seed)
            for one in numbers:
                for other in numbers:
                    self.held(call, bases, one, other, plain(one, other))

    def same_list_twice(self, call, plain, seed):
        for bases in SMALL + GREAT:
            board = Board(bases)
            for number in some_numbers(room_of(bases), seed):
                row = row_of(number, bases)
                due = plain(number, number)
                if due < room_of(bases):
                    self.assertEqual(call(board, row, row), row_of(due, bases))
                else:
                    with self.assertRaises(OutOfRoom):
                        call(board, row, row)
                self.assertEqual(row, row_of(number, bases))


def plus(one, other):
    return one + other


def less(one, other):
    return one - other


def by(one, other):
    return one * other


class Added(Case):
    def test_known_sums(self):
        board = Board([3, 5, 7, 11])
        self.assertEqual(added(board, [2, 3, 1, 8], [0, 1, 6, 6]), [2, 4, 0, 3])
        self.assertEqual(added(board, [1, 1, 1, 1], [1, 1, 1, 1]), [2, 2, 2, 2])

    def test_all_pairs_of_small_rooms(self):
        self.all_pairs(added, plus)

    def test_pairs_of_great_rooms(self):
        self.great_pairs(added, plus, 1)

    def test_at_the_edge_of_the_room(self):
        for bases in SMALL + GREAT:
            room = room_of(bases)
            for one in some_numbers(room, 2):
                for due in (room - 1, room, room + 1):
                    if 0 <= due - one < room:
                        self.held(added, bases, one, due - one, due)
                        self.held(added, bases, due - one, one, due)

    def test_the_greatest_sum(self):
        for bases in SMALL + GREAT:
            room = room_of(bases)
            self.held(added, bases, room - 1, room - 1, 2 * room - 2)

    def test_the_same_list_twice(self):
        self.same_list_twice(added, plus, 3)

    def test_nought_gives_a_new_row(self):
        board = Board([3, 5, 7, 11])
        row = board.rests(8)
        total = added(board, row, board.rests(0))
        self.assertEqual(total, row)
        total[0] = 0
        self.assertEqual(row, [2, 3, 1, 8])


class Taken(Case):
    def test_known_differences(self):
        board = Board([3, 5, 7, 11])
        self.assertEqual(taken(board, [2, 4, 0, 3], [0, 1, 6, 6]), [2, 3, 1, 8])
        self.assertEqual(taken(board, [1, 0, 3, 10], [0, 4, 2, 9]), [1, 1, 1, 1])
        self.assertEqual(taken(board, [1, 0, 3, 10], [1, 0, 3, 10]), [0, 0, 0, 0])

    def test_all_pairs_of_small_rooms(self):
        self.all_pairs(taken, less)

    def test_pairs_of_great_rooms(self):
        self.great_pairs(taken, less, 4)

    def test_nought_and_below(self):
        for bases in SMALL + GREAT:
            room = room_of(bases)
            for one in some_numbers(room, 5):
                for due in (1, 0, -1, -2):
                    if 0 <= one - due < room:
                        self.held(taken, bases, one, one - due, due)

    def test_the_ends(self):
        for bases in SMALL + GREAT:
            room = room_of(bases)
            self.held(taken, bases, room - 1, 0, room - 1)
            self.held(taken, bases, 0, room - 1, 1 - room)
            self.held(taken, bases, 0, 1, -1)

    def test_the_same_list_twice(self):
        self.same_list_twice(taken, less, 6)


class Times(Case):
    def test_known_products(self):
        board = Board([3, 5, 7, 11])
        self.assertEqual(times(board, [2, 2, 2, 2], [1, 2, 0, 7]), [2, 4, 0, 3])
        self.assertEqual(times(board, [0, 3, 3, 3], [1, 4, 4, 4]), [0, 2, 5, 1])

    def test_all_pairs_of_small_rooms(self):
        self.all_pairs(times, by)

    def test_pairs_of_great_rooms(self):
        self.great_pairs(times, by, 7)

    def test_nought_and_one_times_anything(self):
        for bases in SMALL + GREAT:
            for number in some_numbers(room_of(bases), 8):
                for other in (0, 1):
                    self.held(times, bases, number, other, number * other)
                    self.held(times, bases, other, number, number * other)

    def test_just_below_at_and_above_the_room(self):
        for bases in SMALL + GREAT:
            room = room_of(bases)
            for one in some_numbers(room, 9):
                for far in (-1, 0, 1):
                    other = room // max(one, 1) + far
                    if 0 <= other < room:
                        self.held(times, bases, one, other, one * other)
                        self.held(times, bases, other, one, one * other)

    def test_the_room_itself(self):
        for bases in GREAT:
            room = room_of(bases)
            for place in range(len(bases) - 2):
                one = bases[place]
                if 1 < one < room:
                    self.held(times, bases, one, room // one, room)
                    self.held(times, bases, one, room // one - 1, room - one)
                    self.held(times, bases, one - 1, room // one, room - room // one)

    def test_the_room_less_one_and_the_room_and_one(self):
        for bases in GREAT:
            room = room_of(bases)
            for due in (room - 1, room + 1):
                for one in range(2, 1000):
                    if due % one == 0 and max(one, due // one) < room:
                        self.held(times, bases, one, due // one, due)

    def test_the_greatest_product(self):
        for bases in SMALL + GREAT:
            room = room_of(bases)
            self.held(times, bases, room - 1, room - 1, (room - 1) ** 2)

    def test_products_that_look_as_if_they_fit(self):
        # Beyond the whole room a product's rests may be those of a number of the room.
        for bases in ([5, 7, 9, 11, 13], [9, 11, 13, 17, 19], [3, 5, 7, 11, 13, 17]):
            room, whole = room_of(bases), math.prod(bases)
            found = 0
            for one in range(whole // room, room):
                for other in range(whole // one, room):
                    if one * other >= whole and one * other % whole < room:
                        found += 1
                        self.held(times, bases, one, other, one * other)
            self.assertGreater(found, 20)

    def test_great_products_that_look_like_nought(self):
        for bases in (HIGH_PRIMES, FIRST_PRIMES):
            whole = math.prod(bases)
            one = math.prod(bases[:6]) * bases[-1]
            other = whole // one
            self.assertLess(max(one, other), room_of(bases))
            for many in (1, 2):
                self.held(times, bases, one * many, other, whole * many)
                self.held(times, bases, other, one * many, whole * many)

    def test_the_same_list_twice(self):
        self.same_list_twice(times, by, 10)


class Halved(Case):
    def held_half(self, bases, number):
        board = Board(bases)
        row = row_of(number, bases)
        pair = halved(board, row)
        self.assertIs(type(pair), tuple)
        self.assertEqual(len(pair), 2)
        half, left = pair
        self.assertIs(type(half), list)
        self.assertTrue(all(type(rest) is int for rest in half))
        self.assertEqual(half, row_of(number // 2, bases))
        self.assertIs(type(left), int)
        self.assertEqual(left, number % 2)
        self.assertIsNot(half, row)
        half[0] = -1
        self.assertEqual(row, row_of(number, bases))
        self.assertEqual(board.bases, bases)

    def test_known_halves(self):
        board = Board([3, 5, 7, 11])
        self.assertEqual(halved(board, [2, 4, 0, 3]), ([1, 2, 0, 7], 0))
        self.assertEqual(halved(board, [1, 3, 6, 2]), ([0, 1, 6, 6], 1))
        self.assertEqual(halved(board, [0, 0, 0, 0]), ([0, 0, 0, 0], 0))
        self.assertEqual(halved(board, [1, 1, 1, 1]), ([0, 0, 0, 0], 1))

    def test_all_numbers_of_small_rooms(self):
        for bases in SMALL + ([5, 7, 9, 11, 13], [9, 11, 13, 17, 19], [3, 5, 7, 11, 13, 17]):
            for number in range(room_of(bases)):
                self.held_half(bases, number)

    def test_numbers_of_great_rooms(self):
        for bases in GREAT:
            for number in some_numbers(room_of(bases), 11):
                self.held_half(bases, number)

    def test_all_the_way_down(self):
        # A number is told again by what is left of it at each half.
        board = Board(HIGH_PRIMES)
        number = room_of(HIGH_PRIMES) - 1
        row = board.rests(number)
        weight, total = 1, 0
        while row != board.rests(0):
            row, left = halved(board, row)
            total += left * weight
            weight *= 2
        self.assertEqual(total, number)


class Together(Case):
    def test_sums_and_differences_undo_each_other(self):
        for bases in GREAT:
            board = Board(bases)
            room = room_of(bases)
            for one in some_numbers(room, 12):
                other = room - 1 - one
                total = added(board, row_of(one, bases), row_of(other, bases))
                self.assertEqual(board.number(total), room - 1)
                self.assertEqual(taken(board, total, row_of(other, bases)), row_of(one, bases))
                half, left = halved(board, row_of(one, bases))
                twice = times(board, half, row_of(2, bases)) if room > 2 else half
                self.assertEqual(added(board, twice, row_of(left, bases)), row_of(one, bases))

    def test_two_boards_in_turn(self):
        one, other = Board([3, 5, 7, 11, 13]), Board([5, 7, 9, 11])
        for number in range(17):
            self.assertEqual(one.number(added(one, one.rests(number), one.rests(40))), number + 40)
            self.assertEqual(other.number(added(other, other.rests(number), other.rests(18))), number + 18)
            self.assertEqual(one.number(times(one, one.rests(number), one.rests(6))), number * 6)
            self.assertEqual(other.number(times(other, other.rests(number), other.rests(2))), number * 2)

    def test_a_refusal_does_not_hinder_the_next_call(self):
        board = Board([3, 5, 7, 11])
        with self.assertRaises(OutOfRoom):
            added(board, board.rests(14), board.rests(1))
        self.assertEqual(added(board, board.rests(13), board.rests(1)), board.rests(14))


if __name__ == "__main__":
    unittest.main()

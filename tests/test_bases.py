"""common and turned: ordinary numbers, the edges, great numbers and refusals."""

import math
import unittest

from restrow import errors
from restrow.bases import common, turned

OTHER_REFUSALS = (errors.NoBases, errors.NoRow, errors.NoNumber, errors.NoPlace,
                  errors.OutOfRoom, errors.Lost)

# Sixty digits, a thousand, and more than Python writes out at once (4300).
DIGITS = (60, 1000, 1500, 5000)


def great(digits, seed):
    """A number of so many digits, without a pattern in them."""
    number = seed
    while number < 10 ** digits:
        number = number * 1103515245 + 12345 + seed
    number %= 10 ** digits
    return number if number >= 10 ** (digits - 1) else number + 10 ** (digits - 1)


def fibonacci(count):
    low, high = 0, 1
    for _ in range(count):
        low, high = high, low + high
    return low


class Case(unittest.TestCase):
    def is_number(self, value):
        self.assertIs(type(value), int)

    def same(self, one, other):
        # Not assertEqual: its message would write out numbers that are too long for it.
        self.is_number(one)
        self.assertTrue(one == other, "another number was due")


class Common(Case):
    def check(self, one, other, due):
        self.same(common(one, other), due)
        self.same(common(other, one), due)

    def test_ordinary_numbers(self):
        self.check(12, 18, 6)
        self.check(8, 15, 1)
        self.check(35, 21, 7)
        self.check(100, 75, 25)
        self.check(999999, 999997, 1)
        self.check(2 * 3 * 5 * 7, 3 * 7 * 11, 21)

    def test_one_nought(self):
        for number in (1, 2, 9, 999999, 10 ** 60, 10 ** 1000 + 1):
            self.check(number, 0, number)

    def test_two_noughts(self):
        self.check(0, 0, 0)

    def test_one(self):
        for number in (0, 1, 2, 17, 10 ** 60, 10 ** 1000):
            self.check(number, 1, 1)

    def test_the_same_number_twice(self):
        for number in (1, 2, 15, 999999, great(60, 1), great(1000, 2)):
            self.check(number, number, number)

    def test_a_multiple(self):
        for number in (2, 9, 999999, great(60, 3), great(1000, 4)):
            for many in (2, 3, 10, 10 ** 60 + 1):
                self.check(number, number * many, number)

    def test_small_numbers_against_the_word_of_the_document(self):
        for one in range(0, 41):
            for other in range(0, 41):
                due = 0
                for number in range(1, 41):
                    if one % number == 0 and other % number == 0:
                        due = number
                if one == 0 and other == 0:
                    due = 0
                self.same(common(one, other), due)

    def test_great_numbers(self):
        for digits in DIGITS:
            for seed in (5, 6, 7):
                one, other, part = great(digits, seed), great(digits, seed + 9), great(60, seed)
                self.check(one, other, math.gcd(one, other))
                self.check(one * part, other * part, math.gcd(one, other) * part)
                self.check(one, 360360, math.gcd(one, 360360))

    def test_great_numbers_with_a_known_divisor(self):
        self.check(2 ** 5000 - 1, 2 ** 3500 - 1, 2 ** 500 - 1)
        self.check(2 ** 300 * 3 ** 1000, 2 ** 2000 * 3 ** 200, 2 ** 300 * 3 ** 200)

    def test_the_longest_way_down(self):
        # Fibonacci's numbers take the most steps: too many for calls within calls.
        self.check(fibonacci(300), fibonacci(299), 1)
        self.check(fibonacci(6000), fibonacci(5999), 1)
        self.check(fibonacci(6000), fibonacci(5000), fibonacci(1000))

    def test_numbers_far_apart(self):
        self.check(10 ** 100000 + 1, 7, math.gcd(10 ** 100000 + 1, 7))
        self.check(14 * 10 ** 100000, 21, 7)


class Turned(Case):
    def check(self, number, base):
        value = turned(number, base)
        self.is_number(value)
        self.assertTrue(1 <= value <= base - 1, "not from 1 up to the base less 1")
        self.assertTrue(value * number % base == 1, "does not leave 1")

    def test_ordinary_numbers(self):
        self.same(turned(3, 7), 5)
        self.same(turned(7, 9), 4)
        self.same(turned(5, 12), 5)
        self.same(turned(10, 17), 12)
        self.same(turned(3, 1000), 667)

    def test_base_two(self):
        for number in (1, 3, 5, 101, 10 ** 60 + 1, 10 ** 1000 + 1):
            self.same(turned(number, 2), 1)

    def test_one_and_the_base_less_one(self):
        for base in (2, 3, 4, 9, 999999, 10 ** 60, 10 ** 1000):
            self.same(turned(1, base), 1)
            self.same(turned(base - 1, base), base - 1)
            self.same(turned(base + 1, base), 1)
            self.same(turned(2 * base - 1, base), base - 1)

    def test_all_small_ones(self):
        for base in range(2, 61):
            for number in range(0, 3 * base + 2):
                due = [k for k in range(1, base) if k * number % base == 1]
                if due:
                    self.same(turned(number, base), due[0])
                else:
                    with self.assertRaises(errors.NoTurn):
                        turned(number, base)

    def test_many_times_the_base(self):
        for base in (3, 7, 999997, great(60, 8) * 2 + 1, great(1000, 8) * 2 + 1):
            for many in (1, 2, 1000, 10 ** 60, 10 ** 1000):
                self.same(turned(1 + many * base, base), 1)
                self.same(turned(2 + many * base, base), (base + 1) // 2)

    def test_prime_bases(self):
        for base in (2, 3, 5, 97, 499979, 999983):
            for number in list(range(1, min(base, 200))) + [base + 1, 5 * base + 1]:
                self.check(number, base)

    def test_other_bases(self):
        for base in (4, 9, 15, 1000, 65536, 999999, 360360):
            for number in range(1, 2 * 97):
                if math.gcd(number, base) == 1:
                    self.check(number, base)
                    self.check(number + 3 * base, base)

    def test_great_prime_bases(self):
        for base in (2 ** 127 - 1, 2 ** 521 - 1, 2 ** 4423 - 1):
            for number in (2, 3, 999999, great(60, 1), great(1000, 2), great(5000, 3), base - 2):
                self.check(number, base)

    def test_great_numbers_and_bases(self):
        for digits in DIGITS:
            for seed in (3, 4, 5, 6):
                number, base = great(digits, seed), great(digits, seed + 20)
                if math.gcd(number, base) == 1:
                    self.same(turned(number, base), pow(number, -1, base))
                self.check(base + 1, base)
                self.check(base - 1, base)
                self.check(number * base + 1, base)
                self.check(number, 2 * number + 1)
                self.check(2 * number + 1, number)

    def test_great_numbers_with_a_known_answer(self):
        for many in (200, 3500, 20000):
            self.same(turned(2, 2 ** many - 1), 2 ** (many - 1))
            self.same(turned(2 ** (many - 1), 2 ** many - 1), 2)

    def test_the_longest_way_down(self):
        for count in (300, 301, 6000, 6001):
            self.check(fibonacci(count - 1), fibonacci(count))

    def test_a_great_number_over_a_small_base(self):
        self.check(10 ** 100000, 999999)
        self.check(10 ** 100000 + 1, 3)

    def test_the_same_again(self):
        first = [turned(k, 1009) for k in range(1, 1009)]
        self.assertEqual(first, [turned(k, 1009) for k in range(1, 1009)])
        self.assertEqual(sorted(first), list(range(1, 1009)))


class TurnedRefusals(Case):
    def refused(self, number, base):
        for wide in (errors.NoTurn, errors.RestError, ValueError):
            with self.assertRaises(wide) as caught:
                turned(number, base)
            self.assertIs(type(caught.exception), errors.NoTurn)
            for other in OTHER_REFUSALS:
                self.assertNotIsInstance(caught.exception, other)

    def test_a_common_divisor_below_the_base(self):
        self.refused(6, 9)
        self.refused(2, 4)
        self.refused(3, 999999)
        self.refused(10, 15)

    def test_a_common_divisor_above_the_base(self):
        self.refused(12, 9)
        self.refused(6, 4)
        self.refused(999999 + 3, 999999)
        self.refused(10 + 15 * 10 ** 60, 15)

    def test_nought(self):
        for base in (2, 3, 4, 9, 97, 999999, 10 ** 60, 10 ** 1000, 10 ** 5000):
            self.refused(0, base)

    def test_the_base_and_its_multiples(self):
        for base in (2, 3, 9, 97, 999999, great(60, 1), great(1000, 2), great(5000, 3)):
            for many in (1, 2, 3, 97, 10 ** 60):
                self.refused(base * many, base)

    def test_base_one_of_which_each_number_is_a_multiple(self):
        # A base is from 2 on; what the document says of multiples holds here all the same.
        for number in (0, 1, 5, 10 ** 60):
            self.refused(number, 1)

    def test_great_numbers_with_a_common_divisor(self):
        for digits in DIGITS:
            number, base = great(digits, 7), great(digits, 8)
            self.refused(3 * number, 3 * base)
            self.refused(2 * number, 2 * base)
            part = great(digits, 9)
            self.refused(part * number, part * base)
            self.refused(part, part * base)

    def test_a_refusal_does_not_hinder_the_next_call(self):
        self.refused(6, 9)
        self.same(turned(7, 9), 4)


if __name__ == "__main__":
    unittest.main()

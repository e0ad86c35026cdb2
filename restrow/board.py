"""Boards: lists of bases, and what the rows over them tell."""

from restrow.bases import common, turned
from restrow.errors import NoBases, NoNumber, NoRow, OutOfRoom


def multiplied(numbers):
    """Give the product of the numbers; 1 of none."""
    product = 1
    for number in numbers:
        product = product * number
    return product


def is_base(number):
    """Tell whether the number may stand among bases."""
    return isinstance(number, int) and 3 <= number <= 999999 and number % 2 == 1


def goes_behind(base, ahead):
    """Tell whether the base may follow those ahead of it: it is greater, and shares no divisor above 1."""
    for other in ahead:
        if other >= base or common(other, base) > 1:
            return False
    return True


def are_bases(numbers):
    """Tell whether a board can be made of the numbers."""
    if not isinstance(numbers, list) or not 3 <= len(numbers) <= 14:
        return False
    for place, number in enumerate(numbers):
        if not is_base(number) or not goes_behind(number, numbers[:place]):
            return False
    return True


def is_below(number, limit):
    """Tell whether this is a number from 0 up to the limit less 1; None, as of a lost rest, is not."""
    return isinstance(number, int) and 0 <= number < limit


def check_row(bases, row, passed=None):
    """Refuse what is no row over the bases; what stands at the passed place isn't looked at."""
    if not isinstance(row, list) or len(row) != len(bases):
        raise NoRow("a row is a list with one number for each base")
    for place, rest in enumerate(row):
        if place != passed and not is_below(rest, bases[place]):
            raise NoRow(f"at place {place} stands no number from 0 up to {bases[place] - 1}")


def number_of(figures, bases):
    """Give the number, from 0 up to the whole room less 1, of which these are the figures."""
    number = 0
    span = 1
    for figure, base in zip(figures, bases):
        number = number + figure * span
        span = span * base
    return number


def told(board, row):
    """Give the figures of a row that tells a number; refuse any other."""
    figures = board.figures(row)
    if figures[-2:] != [0, 0]:
        raise NoNumber("the row tells no number")
    return figures


class Board:
    """A list of bases, the last two of them the guards, and the rows over it."""

    def __init__(self, bases):
        if not are_bases(bases):
            raise NoBases("bases are 3 to 14 odd numbers from 3 to 999999, rising, with no common divisors")
        self.bases = list(bases)
        # For each base the number that times all bases ahead of it leaves 1 over it.
        self._turns = [turned(multiplied(bases[:place]), base) for place, base in enumerate(bases)]

    def room(self):
        """Give the product of the own bases."""
        return multiplied(self.bases[:-2])

    def rests(self, number):
        """Give the row that tells the number."""
        if not 0 <= number < self.room():
            # The message does not name the number, since Python does not write out very long ones.
            raise OutOfRoom("the number is below 0, or not below the room")
        return [number % base for base in self.bases]

    def figures(self, row):
        """Give the figures of a row, whether it tells a number or not."""
        check_row(self.bases, row)
        figures = []
        number = 0
        span = 1
        # The number of the figures so far has all rests so far. A figure adds so many spans to it,
        # which changes none of them, that it gets the next rest too.
        for rest, base, turn in zip(row, self.bases, self._turns):
            figure = (rest - number) * turn % base
            figures.append(figure)
            number = number + figure * span
            span = span * base
        return figures

    def tells(self, row):
        """Tell whether the row tells a number."""
        return self.figures(row)[-2:] == [0, 0]

    def number(self, row):
        """Give the number that the row tells."""
        return number_of(told(self, row), self.bases)

    def compared(self, one, other):
        """Give -1, 0 or 1: the first row's number is less than the second's, the same, or greater."""
        first = told(self, one)
        second = told(self, other)
        # The last figure weighs more than all ahead of it together.
        for here, there in zip(first[::-1], second[::-1]):
            if here < there:
                return -1
            if here > there:
                return 1
        return 0

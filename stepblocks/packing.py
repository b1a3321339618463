"""Rows of coefficients modulo 2**32, each row packed into one large number."""

from stepblocks.texts import MODULUS

WIDTH = 128


class Packing:
    """Rows with so many places, packed: the coefficient of a place stands in the bits from 128 times the place on.

    So one step of arithmetic with large numbers does it for all places. The room for a coefficient holds the sum of a
    product of two values for each place.
    """

    def __init__(self, many):
        self._many = many
        ones = ((1 << (WIDTH * many)) - 1) // ((1 << WIDTH) - 1)
        self._mask = ones * (MODULUS - 1)
        self._lift = ones * MODULUS

    def unit(self, place, value):
        """Return the row with a value at a place, and 0 elsewhere."""
        return value << (WIDTH * place)

    def plus(self, row, other):
        """Return the sum of two rows."""
        return (row + other) & self._mask

    def minus(self, row, other):
        """Return the difference of two rows."""
        # Lifted, no coefficient falls below 0, which would take from the place above.
        return (row + self._lift - other) & self._mask

    def times(self, row, value):
        """Return a row multiplied by a value."""
        return (row * value) & self._mask

    def read(self, row):
        """Return the list of the coefficients of a row."""
        return [(row >> (WIDTH * place)) & (MODULUS - 1) for place in range(self._many)]

    def apply(self, rows, values):
        """Return the list of the values that rows give, each from a list of values."""
        found = []
        for row in rows:
            products = [factor * value for factor, value in zip(self.read(row), values)]
            found.append(sum(products) & (MODULUS - 1))
        return found

    def square(self, rows):
        """Return the rows that give, at once, what rows give when they are applied twice."""
        found = []
        for row in rows:
            # Most coefficients of a net are 0 at first.
            products = [factor * other for factor, other in zip(self.read(row), rows) if factor]
            found.append(sum(products) & self._mask)
        return found

    def apply_often(self, rows, values, many):
        """Return the list of the values that come of some values when rows are applied to them so many times."""
        found = list(values)
        left = many
        while left > 0:
            if left & 1:
                found = self.apply(rows, found)
            left //= 2
            rows = self.square(rows) if left > 0 else rows
        return found

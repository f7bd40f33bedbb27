"""Pools, which give numbers to values."""


class Pool:
    """Values, with the numbers that they got in the order in which they came."""

    def __init__(self):
        self._numbers = {}
        self._rows = []

    def number_of(self, value):
        """Return the number of a value, a new one for a new value."""
        if value not in self._numbers:
            self._numbers[value] = len(self._rows)
            self._rows.append(value)
        return self._numbers[value]

    def value_of(self, number):
        """Return the value that has a number."""
        return self._rows[number]

    def __len__(self):
        return len(self._rows)

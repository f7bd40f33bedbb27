"""Integers as sets of small numbers: a bit for each."""


def bits_of(number):
    """Return the places of the bits of an integer, ascending."""
    return [at for at in range(number.bit_length()) if number >> at & 1 == 1]


def with_bits(places):
    """Return the integer with bits at these places."""
    number = 0
    for at in places:
        number |= 1 << at
    return number

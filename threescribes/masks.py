"""Sets of numbers as integers, with a bit for each number."""


def mask_of(numbers):
    """The integer with the bits of some numbers."""
    mask = 0
    for number in numbers:
        mask |= 1 << number
    return mask


def bits_of(mask):
    """The numbers of the bits of an integer, in ascending order."""
    numbers = []
    while mask:
        low = mask & -mask
        numbers.append(low.bit_length() - 1)
        mask ^= low
    return numbers

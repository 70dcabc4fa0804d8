"""Packets, and filters that tell which packets are wanted."""

from steadhold.bounds import is_index
from steadhold.frames import is_word

FIELDS = 6


def is_packet(value):
    """True if the value is a tuple of FIELDS words; it may be anything."""
    if not isinstance(value, tuple) or len(value) != FIELDS:
        return False
    return all([is_word(word) for word in value])


def is_filter(value):
    """True if the value is a tuple of tests in ascending order of their indexes; it may be anything."""
    if not isinstance(value, tuple) or len(value) > FIELDS:
        return False
    if not all([_is_test(test) for test in value]):
        return False
    return all([value[at][0] < value[at + 1][0] for at in range(len(value) - 1)])


def _is_test(value):
    if not isinstance(value, tuple) or len(value) != 3:
        return False
    index, mask, wanted = value
    if not is_index(index, FIELDS) or not is_word(mask) or not is_word(wanted):
        return False
    return mask != 0 and (wanted & mask) == wanted


def meets(tests, packet):
    """True if the packet meets the filter of these tests."""
    return all([(packet[index] & mask) == value for index, mask, value in tests])


def common(one, other):
    """The common packet of two filters, or None."""
    words = [0] * FIELDS
    masks = [0] * FIELDS
    for index, mask, value in one:
        masks[index] = mask
        words[index] = value
    for index, mask, value in other:
        if (words[index] ^ value) & masks[index] & mask:
            return None
        words[index] = words[index] | value
    return tuple(words)

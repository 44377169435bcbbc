"""Lengths as sums of other lengths."""

from seamlots.machines import are_ascending
from seamlots.wrongs import NoLengths

MOST_NUMBERS = 8
GREATEST_NUMBER = 40


def is_lengths(value):
    """True if the value is lengths, otherwise False."""
    return are_ascending(value, GREATEST_NUMBER + 1) and 1 <= len(value) <= MOST_NUMBERS and value[0] == 0


def sums(one, other):
    """The sums of the two lengths."""
    _check_lengths(one)
    _check_lengths(other)
    return _all_sums(one, other)


def sum_pairs(lengths):
    """The ascending list of the sum pairs."""
    _check_lengths(lengths)
    pairs = []
    for one in _parts_with_first(lengths):
        other = _greatest_beside(one, lengths)
        if len(one) > 1 and len(other) > 1 and _all_sums(one, other) == lengths:
            # The other is the greatest one beside the one; the same must hold the other way round.
            if _greatest_beside(other, lengths) == one:
                pairs.append((one, other))
    return sorted(pairs)


def _check_lengths(value):
    if not is_lengths(value):
        raise NoLengths("these are no lengths")


def _all_sums(one, other):
    return tuple(sorted({number + added for number in one for added in other}))


def _parts_with_first(lengths):
    """All tuples of some of the numbers, in their order, with the first one among them."""
    parts = [lengths[:1]]
    for number in lengths[1:]:
        parts = parts + [part + (number,) for part in parts]
    return parts


def _greatest_beside(part, lengths):
    """All numbers of which each sum with a number of the part is among the lengths."""
    # The part has 0, so all such numbers are among the lengths themselves.
    return tuple([added for added in lengths if all([number + added in lengths for number in part])])

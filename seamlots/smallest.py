"""Parting words and smallest machines."""

from seamlots.machines import MOST_STANDINGS, check_alike, check_machine
from seamlots.search import all_states, least_word, step_of_pairs
from seamlots.wrongs import TooMany


def parting_word(one, other):
    """The least word that just one of the two machines takes, or None."""
    check_machine(one)
    check_machine(other)
    check_alike(one, other)
    return least_word(
        one[0],
        (0, 0),
        step_of_pairs(one, other),
        lambda pair: (pair[0] in one[2]) != (pair[1] in other[2]))


def smallest(machine):
    """The smallest machine of the machine."""
    check_machine(machine)
    letters, moves, ends = machine
    return smallest_of(
        letters,
        0,
        lambda standing, number: moves[standing][number],
        lambda standing: standing in ends)


def takes_some_word(machine):
    """True if the machine takes some word, otherwise False."""
    # A smallest machine reaches all its standings, so each of its ends is one of a word.
    return len(smallest(machine)[2]) > 0


def smallest_of(letters, start, step, is_end):
    """The smallest machine of the words that lead from the start to an end, step as in search; raises TooMany."""
    states, rows = all_states(letters, start, step)
    ended = [is_end(state) for state in states]
    groups = _numbered(ended)
    many = 0
    while many < max(groups) + 1:
        many = max(groups) + 1
        # Groups are only ever divided, so too many of them will not become fewer.
        if many > MOST_STANDINGS:
            raise TooMany(MOST_STANDINGS)
        groups = _numbered([(groups[at], tuple([groups[to] for to in row])) for at, row in enumerate(rows)])
    return _machine_of_groups(letters, rows, ended, groups)


def _numbered(keys):
    # The states come in the order of their least words, so numbering by the first of each group keeps that order.
    numbers = {}
    for key in keys:
        if key not in numbers:
            numbers[key] = len(numbers)
    return [numbers[key] for key in keys]


def _machine_of_groups(letters, rows, ended, groups):
    firsts = [groups.index(group) for group in range(max(groups) + 1)]
    moves = tuple([tuple([groups[to] for to in rows[at]]) for at in firsts])
    ends = tuple([group for group, at in enumerate(firsts) if ended[at]])
    return (letters, moves, ends)

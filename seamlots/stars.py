"""Stars, closed machines and their roots."""

from seamlots.cuts import led_on
from seamlots.machines import check_few, check_machine
from seamlots.making import star_of
from seamlots.search import least_word, step_of_pairs
from seamlots.smallest import smallest_of
from seamlots.wrongs import NotClosed

MOST_STARRED_STANDINGS = 5


def starred(machine):
    """The smallest machine of the star."""
    _check_starred(machine)
    return star_of(machine)


def is_closed(machine):
    """True if the machine is closed, otherwise False."""
    return open_pair(machine) is None


def open_pair(machine):
    """An open pair; if there is none, None if the machine is closed, otherwise ()."""
    _check_starred(machine)
    for end in machine[2]:
        pair = _open_pair_by(machine, end)
        if pair is not None:
            return pair
    # All words of the star but the empty one are taken now.
    return None if 0 in machine[2] else ()


def root_of(machine):
    """The smallest machine of the root; raises NotClosed."""
    if not is_closed(machine):
        raise NotClosed("the machine is not closed")
    letters, moves, ends = machine

    # A state is whether a letter was read, the standing, and where what is behind each taken beginning leads from 0;
    # neither the beginning nor what is behind it is empty.
    def step(state, number):
        is_begun, standing, led = state
        if is_begun and standing in ends:
            led = led + (0,)
        return (True, moves[standing][number], led_on(moves, led, number))

    def is_root_word(state):
        is_begun, standing, led = state
        return is_begun and standing in ends and not any([behind in ends for behind in led])

    return smallest_of(letters, (False, 0, ()), step, is_root_word)


def _open_pair_by(machine, end):
    """An open pair of which the first word leads to the end, or None."""
    letters, moves, ends = machine
    one = least_word(
        letters,
        0,
        lambda standing, number: moves[standing][number],
        lambda standing: standing == end)
    if one is None:
        return None
    other = least_word(
        letters,
        (0, end),
        step_of_pairs(machine, machine),
        lambda pair: pair[0] in ends and pair[1] not in ends)
    return None if other is None else (one, other)


def _check_starred(machine):
    check_machine(machine)
    check_few(machine, MOST_STARRED_STANDINGS)

"""Widened cuts, and words that can be cut at two places."""

from seamlots.cuts import check_cut_of_few, is_within, led_on, second_lot
from seamlots.products import splitting_cuts
from seamlots.search import least_word, least_word_of_some, step_of_pairs


def widened(machine, cut):
    """The widened cut of the cut."""
    check_cut_of_few(machine, cut)
    return standings_ahead(machine, second_lot(machine, cut))


def closed_cuts(machine):
    """The ascending list of the closed cuts that split the machine and are not idle."""
    return [cut for cut in splitting_cuts(machine) if widened(machine, cut) == cut]


def double_word(machine, cut):
    """The least double word of the cut, or None."""
    check_cut_of_few(machine, cut)
    letters, moves, ends = machine

    # A state is the standing, and for each of at most two places chosen so far where it leads from all of the cut.
    def choices(standing, parts):
        if standing in cut and len(parts) < 2:
            return [(standing, parts), (standing, tuple(sorted(parts + (cut,))))]
        return [(standing, parts)]

    def steps(state, number):
        standing, parts = state
        led = tuple(sorted([led_on(moves, part, number) for part in parts]))
        return choices(moves[standing][number], led)

    def is_double(state):
        return len(state[1]) == 2 and all([is_within(part, ends) for part in state[1]])

    return least_word_of_some(letters, choices(0, ()), steps, is_double)


def standings_ahead(machine, second):
    """The ascending tuple of the standings from which each word that the second machine takes leads to an end."""
    return tuple([standing for standing in range(len(machine[1])) if _is_ahead(machine, standing, second)])


def _is_ahead(machine, standing, second):
    lost_word = least_word(
        machine[0],
        (standing, 0),
        step_of_pairs(machine, second),
        lambda pair: pair[0] not in machine[2] and pair[1] in second[2])
    return lost_word is None

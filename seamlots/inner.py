"""Cuts strictly inside of words."""

from seamlots.cuts import MOST_CUT_STANDINGS, all_cuts, check_cut_of_few, cuttings, inmost, is_bad, is_paper, led_on
from seamlots.machines import check_few, check_machine, takes
from seamlots.search import least_word
from seamlots.smallest import takes_some_word


def inner_places(machine, cut, word):
    """The ascending list of the places at which the word is cut strictly inside."""
    return [place for place in cuttings(machine, cut, word) if 0 < place < len(word)]


def failing_inner(machine, cut):
    """The least word that the machine takes and that can't be cut strictly inside, or None."""
    check_cut_of_few(machine, cut)
    letters, moves, ends = machine

    # A state is whether a letter was read, and a row as for cuts, but only for places with letters on both sides.
    def step(state, number):
        is_begun, (standing, parts) = state
        if is_begun and standing in cut:
            parts = parts + (cut,)
        return (True, (moves[standing][number], inmost([led_on(moves, part, number) for part in parts])))

    return least_word(letters, (False, (0, ())), step, lambda state: is_bad(state[1], ends))


def inner_cuts(machine):
    """The ascending list of the inner cuts, [] if the machine takes no word."""
    return [cut for cut in _cuts_to_look_at(machine) if failing_inner(machine, cut) is None]


def no_inner(machine):
    """The paper that there is no inner cut, with the least words, or None if there is one."""
    rows = []
    for cut in _cuts_to_look_at(machine):
        word = failing_inner(machine, cut)
        if word is None:
            return None
        rows.append((cut, word))
    return rows


def is_no_inner(machine, value):
    """True if the value is a paper that there is no inner cut, otherwise False."""
    return is_paper(machine, _cuts_to_look_at(machine), value, _is_failing_inner)


def _cuts_to_look_at(machine):
    check_machine(machine)
    check_few(machine, MOST_CUT_STANDINGS)
    # Of a machine that takes no word no cut is an inner one, and its paper has no rows.
    return all_cuts(machine) if takes_some_word(machine) else []


def _is_failing_inner(machine, cut, word):
    return takes(machine, word) and not inner_places(machine, cut, word)

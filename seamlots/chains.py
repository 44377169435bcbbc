"""Chains of cuts, and the ways from each of their cuts to the next one."""

from seamlots.cuts import MOST_CUT_STANDINGS, check_cut, has_cut, inmost, is_any_within, led_on, lot_between
from seamlots.machines import check_few, check_machine
from seamlots.search import least_word
from seamlots.wrongs import NoChain

MOST_CUTS = 4
MOST_STANDINGS_OF_CHAINED = 3


def way_of(machine, cut, later):
    """The smallest machine of the way."""
    check_machine(machine)
    check_cut(machine, cut)
    check_cut(machine, later)
    check_few(machine, MOST_CUT_STANDINGS)
    return lot_between(machine, cut, later)


def is_chain(machine, value):
    """True if the value is a chain of cuts of the machine, otherwise False."""
    check_machine(machine)
    return _has_chain(machine, value)


def failing_chain(machine, chain):
    """The least word that the machine takes and that does not consist of a word of each lot of the chain, or None."""
    check_machine(machine)
    if not _has_chain(machine, chain):
        raise NoChain("this is no chain of cuts of the machine")
    check_few(machine, MOST_STANDINGS_OF_CHAINED)
    return failing_along(machine, chain)


def failing_along(machine, chain):
    """As failing_chain, for a chain of any length of cuts of any machine."""
    letters, moves, ends = machine
    goals = chain[1:] + (ends,)

    # A state is the standing, and for each lot but the first one the sets to which its words begun so far lead.
    def state_of(standing, lots):
        is_made = standing in chain[0]
        told = []
        for cut, parts, goal in zip(chain, lots, goals):
            # A word of this lot can begin wherever a word of the lot ahead ends.
            begun = inmost(parts + [cut]) if is_made else inmost(parts)
            is_made = is_any_within(begun, goal)
            told.append(begun)
        return (standing, tuple(told))

    def step(state, number):
        standing, lots = state
        led = [[led_on(moves, part, number) for part in parts] for parts in lots]
        return state_of(moves[standing][number], led)

    def is_failing_state(state):
        standing, lots = state
        return standing in ends and not is_any_within(lots[-1], ends)

    return least_word(letters, state_of(0, [[] for _ in chain]), step, is_failing_state)


def _has_chain(machine, value):
    if not isinstance(value, tuple) or not 1 <= len(value) <= MOST_CUTS:
        return False
    return all([has_cut(machine, cut) for cut in value])

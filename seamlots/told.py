"""Told factors: what they reach, what can stand behind or ahead of them, and the words that they lack."""

from seamlots.cuts import MOST_CUT_STANDINGS, inmost, is_bad, led_on, lot_between
from seamlots.machines import check_alike, check_few, check_machine
from seamlots.search import all_states, least_word, step_of_pairs
from seamlots.smallest import smallest
from seamlots.widened import standings_ahead


def reached_by(machine, first):
    """The ascending tuple of the standings that the first factor reaches."""
    _check_told(machine, first)
    pairs, _ = all_states(machine[0], (0, 0), step_of_pairs(machine, first))
    return tuple(sorted({standing for standing, own in pairs if own in first[2]}))


def rest_of(machine, first):
    """The smallest machine of the rest of the first factor."""
    return lot_between(machine, reached_by(machine, first), machine[2])


def head_of(machine, second):
    """The smallest machine of the head of the second factor."""
    _check_told(machine, second)
    letters, moves, _ = machine
    return smallest((letters, moves, standings_ahead(machine, second)))


def lacking_word(machine, first):
    """The least lacking word of the first factor, or None."""
    reached = reached_by(machine, first)
    letters, moves, ends = machine
    # The search pairs each standing of the factor with many rows, so the fewer it has, the better.
    _, own_moves, own_ends = smallest(first)

    # A state is the factor's own standing with a row as for cuts, but for places behind words of the factor.
    def state_of(own, standing, parts):
        if own in own_ends:
            return (own, (standing, inmost(parts + [reached])))
        return (own, (standing, inmost(parts)))

    def step(state, number):
        own, (standing, parts) = state
        led = [led_on(moves, part, number) for part in parts]
        return state_of(own_moves[own][number], moves[standing][number], led)

    return least_word(letters, state_of(0, 0, []), step, lambda state: is_bad(state[1], ends))


def _check_told(machine, factor):
    check_machine(machine)
    check_machine(factor)
    check_alike(machine, factor)
    check_few(machine, MOST_CUT_STANDINGS)

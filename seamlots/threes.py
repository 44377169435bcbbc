"""Three lots, made by two cuts of a machine."""

from seamlots.cuts import check_cut, has_longer_word, inmost, is_any_within, led_on, lot_between
from seamlots.machines import check_few, check_machine
from seamlots.products import splitting_cuts
from seamlots.search import least_word

MOST_STANDINGS_OF_THREES = 4


def middle_lot(machine, cut, later):
    """The smallest machine of the middle lot."""
    _check_cuts(machine, cut, later)
    return lot_between(machine, cut, later)


def failing_three(machine, cut, later):
    """The least word that the machine takes and that is no word of the three lots, or None."""
    _check_cuts(machine, cut, later)
    letters, moves, ends = machine

    # A state is the standing, the sets to which the middle words begun so far lead, and those of the last words.
    def state_of(standing, middles, lasts):
        if standing in cut:
            middles = middles + [cut]
        if is_any_within(middles, later):
            lasts = lasts + [later]
        return (standing, inmost(middles), inmost(lasts))

    def step(state, number):
        standing, middles, lasts = state
        return state_of(
            moves[standing][number],
            [led_on(moves, part, number) for part in middles],
            [led_on(moves, part, number) for part in lasts])

    def is_failing_state(state):
        return state[0] in ends and not is_any_within(state[2], ends)

    return least_word(letters, state_of(0, [], []), step, is_failing_state)


def three_cuts(machine):
    """The ascending list of the tuples (cut, later) that split the machine and are not idle."""
    check_machine(machine)
    check_few(machine, MOST_STANDINGS_OF_THREES)
    # Where two cuts split the machine into three lots, each of them alone splits it, and if it were idle, they were.
    cuts = splitting_cuts(machine)
    return [(cut, later) for cut in cuts for later in cuts if _split_live(machine, cut, later)]


def _split_live(machine, cut, later):
    return has_longer_word(middle_lot(machine, cut, later)) and failing_three(machine, cut, later) is None


def _check_cuts(machine, cut, later):
    check_machine(machine)
    check_cut(machine, cut)
    check_cut(machine, later)
    check_few(machine, MOST_STANDINGS_OF_THREES)

"""Three lots, made by two cuts of a machine."""

from seamlots.chains import failing_along
from seamlots.cuts import check_cut, has_longer_word, lot_between
from seamlots.machines import check_few, check_machine
from seamlots.products import splitting_cuts

MOST_STANDINGS_OF_THREES = 4


def middle_lot(machine, cut, later):
    """The smallest machine of the middle lot."""
    _check_cuts(machine, cut, later)
    return lot_between(machine, cut, later)


def failing_three(machine, cut, later):
    """The least word that the machine takes and that is no word of the three lots, or None."""
    _check_cuts(machine, cut, later)
    return failing_along(machine, (cut, later))


def three_cuts(machine):
    """The ascending list of the tuples (cut, later) that split the machine and are not idle."""
    check_machine(machine)
    check_few(machine, MOST_STANDINGS_OF_THREES)
    # Where two cuts split the machine into three lots, each of them alone splits it, and if it were idle, they were.
    cuts = splitting_cuts(machine)
    return [(cut, later) for cut in cuts for later in cuts if _split_live(machine, cut, later)]


def _split_live(machine, cut, later):
    return has_longer_word(middle_lot(machine, cut, later)) and failing_three(machine, cut, later) is None


def _check_cuts(machine, cut, later):
    check_machine(machine)
    check_cut(machine, cut)
    check_cut(machine, later)
    check_few(machine, MOST_STANDINGS_OF_THREES)

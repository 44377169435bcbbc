"""Products, machines that are split by a cut, and papers that a machine is none."""

from seamlots.cuts import MOST_CUT_STANDINGS, all_cuts, failing_word, is_failing, is_idle, is_paper
from seamlots.machines import check_few, check_machine


def splitting_cuts(machine):
    """The ascending list of the cuts that split the machine and are not idle."""
    return [cut for cut in _cuts_not_idle(machine) if failing_word(machine, cut) is None]


def is_product(machine):
    """True if a cut that is not idle splits the machine, otherwise False."""
    return len(splitting_cuts(machine)) > 0


def no_product(machine):
    """The paper that the machine is no product, with the least failing word of each cut, or None if it is one."""
    rows = []
    for cut in _cuts_not_idle(machine):
        word = failing_word(machine, cut)
        if word is None:
            return None
        rows.append((cut, word))
    return rows


def is_no_product(machine, value):
    """True if the value is a paper that the machine is no product, otherwise False."""
    return is_paper(machine, _cuts_not_idle(machine), value, is_failing)


def _cuts_not_idle(machine):
    check_machine(machine)
    check_few(machine, MOST_CUT_STANDINGS)
    return [cut for cut in all_cuts(machine) if not is_idle(machine, cut)]

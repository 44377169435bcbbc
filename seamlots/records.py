"""Records of what was told, and their judge."""

from seamlots.cuts import MOST_CUT_STANDINGS, cuttings, failing_word, has_cut, is_failing, is_idle
from seamlots.machines import is_machine, is_word_of, takes
from seamlots.products import is_no_product
from seamlots.smallest import parting_word, takes_some_word
from seamlots.told import lacking_word
from seamlots.wrongs import NoRecord


def judge(record):
    """("right",), or ("wrong", number) with the number of the first condition that does not hold; raises NoRecord."""
    if not isinstance(record, tuple) or len(record) == 0:
        raise NoRecord("this is no record")
    form = record[0]
    # What is no string need not be hashable.
    if not isinstance(form, str) or form not in FORMS:
        raise NoRecord("no record begins so")
    length, conditions = FORMS[form]
    if len(record) != length:
        raise NoRecord("records of this form have another length")
    for number, holds in enumerate(conditions):
        if not holds(record[1:]):
            return ("wrong", number)
    return ("right",)


def _has_machine(entries):
    return is_machine(entries[0])


def _has_few(entries):
    return is_machine(entries[0]) and len(entries[0][1]) <= MOST_CUT_STANDINGS


def _are_alike(entries):
    return is_machine(entries[0]) and is_machine(entries[1]) and entries[0][0] == entries[1][0]


def _are_alike_and_few(entries):
    return _has_few(entries) and _are_alike(entries)


def _take_the_same(entries):
    one, other = entries
    return parting_word(one, other) is None


def _has_own_cut(entries):
    return has_cut(entries[0], entries[1])


def _has_live_cut(entries):
    machine, cut = entries
    return has_cut(machine, cut) and not is_idle(machine, cut)


def _is_split(entries):
    machine, cut = entries
    return failing_word(machine, cut) is None


def _has_word(entries):
    return is_word_of(entries[0][0], entries[2])


def _takes_just_one(entries):
    one, other, word = entries
    return takes(one, word) != takes(other, word)


def _fails(entries):
    machine, cut, word = entries
    return is_failing(machine, cut, word)


def _is_double(entries):
    machine, cut, word = entries
    return len(cuttings(machine, cut, word)) > 1


def _has_paper(entries):
    machine, rows = entries
    return is_no_product(machine, rows)


def _first_takes_some(entries):
    return takes_some_word(entries[1])


def _lacks_none(entries):
    machine, first = entries
    return lacking_word(machine, first) is None


def _takes_one(entries):
    return is_word_of(entries[0][0], entries[1]) and takes(entries[0], entries[1])


def _takes_other(entries):
    return is_word_of(entries[0][0], entries[2]) and takes(entries[0], entries[2])


def _are_open(entries):
    machine, one, other = entries
    return not takes(machine, one + other)


# For each form the length of its records, and its conditions in their order: each is told all entries but the first.
FORMS = {
    "same": (3, (_are_alike, _take_the_same)),
    "parts": (4, (_are_alike, _has_word, _takes_just_one)),
    "splits": (3, (_has_few, _has_live_cut, _is_split)),
    "fails": (4, (_has_few, _has_own_cut, _has_word, _fails)),
    "twice": (4, (_has_few, _has_own_cut, _has_word, _is_double)),
    "none": (3, (_has_few, _has_paper)),
    "factor": (3, (_are_alike_and_few, _first_takes_some, _lacks_none)),
    "open": (4, (_has_machine, _takes_one, _takes_other, _are_open)),
}

"""Cuts of machines, their lots, and the words that can't be cut."""

from seamlots.machines import LETTERS, are_ascending, check_few, check_machine, check_word, is_word_of
from seamlots.machines import standings_along, takes
from seamlots.search import least_word
from seamlots.smallest import smallest, smallest_of
from seamlots.wrongs import NoCut

MOST_CUT_STANDINGS = 5


def is_cut(machine, value):
    """True if the value is a cut of the machine, otherwise False."""
    check_machine(machine)
    check_few(machine, MOST_CUT_STANDINGS)
    return has_cut(machine, value)


def first_lot(machine, cut):
    """The smallest machine of the first lot."""
    check_cut_of_few(machine, cut)
    letters, moves, _ = machine
    return smallest((letters, moves, cut))


def second_lot(machine, cut):
    """The smallest machine of the second lot."""
    check_cut_of_few(machine, cut)
    return lot_between(machine, cut, machine[2])


def is_idle(machine, cut):
    """True if the first lot or the second lot has no word but, perhaps, the empty one, otherwise False."""
    return not has_longer_word(first_lot(machine, cut)) or not has_longer_word(second_lot(machine, cut))


def cuttings(machine, cut, word):
    """The ascending list of the places at which the word can be cut by the cut."""
    check_machine(machine)
    check_cut(machine, cut)
    check_word(machine, word)
    check_few(machine, MOST_CUT_STANDINGS)
    standings = standings_along(machine, word)
    # From the standings in good, what is behind the place leads to an end.
    good = machine[2]
    places = []
    for place in range(len(word), -1, -1):
        if place < len(word):
            good = _led_into(machine[1], good, LETTERS.index(word[place]))
        if standings[place] in cut and is_within(cut, good):
            places.append(place)
    return places[::-1]


def failing_word(machine, cut):
    """The least failing word, or None if the cut splits the machine."""
    check_cut_of_few(machine, cut)
    letters, moves, ends = machine
    return least_word(
        letters,
        first_row(cut),
        lambda row, number: next_row(moves, cut, row, number),
        lambda row: is_bad(row, ends))


def has_cut(machine, value):
    """True if the value is a cut of the machine, however many standings it has, otherwise False."""
    return are_ascending(value, len(machine[1])) and len(value) > 0


def check_cut(machine, value):
    """Raises NoCut if the value is not a cut of the machine."""
    if not has_cut(machine, value):
        raise NoCut("this is no cut of the machine")


def check_cut_of_few(machine, cut):
    """Raises what is due if this is no machine, no cut of it, or a machine with too many standings to be cut."""
    check_machine(machine)
    check_cut(machine, cut)
    check_few(machine, MOST_CUT_STANDINGS)


def all_cuts(machine):
    """The ascending list of all cuts of the machine."""
    cuts = []
    for standing in range(len(machine[1]) - 1, -1, -1):
        # The cuts so far have later standings only, so all that have this one come ahead of them.
        cuts = [(standing,)] + [(standing,) + cut for cut in cuts] + cuts
    return cuts


def is_failing(machine, cut, word):
    """True if the word is a failing word of the cut, otherwise False."""
    return takes(machine, word) and not cuttings(machine, cut, word)


def is_paper(machine, cuts, value, is_right):
    """True if the value is a list of tuples (cut, word): these cuts in their order, each with a word that is right."""
    if not isinstance(value, list) or len(value) != len(cuts):
        return False
    return all([_is_paper_row(machine, cut, row, is_right) for cut, row in zip(cuts, value)])


def lot_between(machine, part, goals):
    """The smallest machine of the words that lead from each standing of the part to one of the goals."""
    letters, moves, _ = machine
    return smallest_of(
        letters,
        part,
        lambda led, number: led_on(moves, led, number),
        lambda led: is_within(led, goals))


def has_longer_word(lot):
    """True if the lot, a smallest machine, takes a word that is not empty, otherwise False."""
    # A smallest machine reaches all its standings, so a letter that leads to an end makes a word that is taken.
    _, moves, ends = lot
    return any([end in row for row in moves for end in ends])


def led_on(moves, part, number):
    """The ascending tuple of the standings to which the letter of that number leads from those of the part."""
    return tuple(sorted({moves[standing][number] for standing in part}))


def is_within(part, whole):
    """True if all standings of the part are among those of the whole, otherwise False."""
    return all([standing in whole for standing in part])


def is_any_within(parts, whole):
    """True if all standings of one of the parts are among those of the whole, otherwise False."""
    return any([is_within(part, whole) for part in parts])


def inmost(parts):
    """The ascending tuple of the parts without those that have another one of them within them."""
    # Where a part leads to ends alone, those within it do so too: only the inmost ones can tell.
    return tuple(sorted({part for part in parts if not _has_one_within(part, parts)}))


def first_row(cut):
    """The row of the empty word for the cut."""
    return _row(0, [], cut)


def next_row(moves, cut, row, number):
    """The row to which the letter of that number leads from the row."""
    standing, parts = row
    return _row(moves[standing][number], [led_on(moves, part, number) for part in parts], cut)


def is_bad(row, ends):
    """True if the words of the row are taken and can't be cut at any place, otherwise False."""
    standing, parts = row
    return standing in ends and not is_any_within(parts, ends)


def _row(standing, parts, cut):
    if standing in cut:
        parts = parts + [cut]
    return (standing, inmost(parts))


def _is_paper_row(machine, cut, value, is_right):
    if not isinstance(value, tuple) or len(value) != 2:
        return False
    told, word = value
    # To Python (False, True) and (0, 1) are equal, so it must be asked first whether this is a cut at all.
    if not has_cut(machine, told) or told != cut:
        return False
    return is_word_of(machine[0], word) and is_right(machine, cut, word)


def _has_one_within(part, parts):
    return any([other != part and is_within(other, part) for other in parts])


def _led_into(moves, part, number):
    return tuple([standing for standing, row in enumerate(moves) if row[number] in part])

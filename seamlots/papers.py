"""Papers of cuts: that a cut splits its machine, and that it is idle."""

from seamlots.cuts import check_cut_of_few, first_row, has_cut, inmost, is_bad, is_within, led_on, next_row
from seamlots.machines import are_ascending, is_integer
from seamlots.search import all_states, least_word


def split_paper(machine, cut):
    """The split paper that has just the rows of all words, ascending, or None if the cut does not split the machine."""
    check_cut_of_few(machine, cut)
    letters, moves, ends = machine
    rows, _ = all_states(letters, first_row(cut), lambda row, number: next_row(moves, cut, row, number))
    if any([is_bad(row, ends) for row in rows]):
        return None
    return sorted(rows)


def is_split_paper(machine, cut, value):
    """True if the value is a split paper of the cut, otherwise False."""
    check_cut_of_few(machine, cut)
    letters, moves, ends = machine
    if not isinstance(value, list) or not all([_is_row(machine, row) and not is_bad(row, ends) for row in value]):
        return False
    return _are_led_to(letters, [first_row(cut)], value, lambda row, number: next_row(moves, cut, row, number))


def idle_paper(machine, cut):
    """The idle paper of the cut with just what words that are not empty lead to, or None if it is not idle."""
    check_cut_of_few(machine, cut)
    letters, moves, ends = machine
    standings = _behind(letters, 0, lambda standing, number: moves[standing][number])
    if not any([standing in cut for standing in standings]):
        return ("first", standings)
    parts = _behind(letters, cut, lambda part, number: led_on(moves, part, number))
    if not any([is_within(part, ends) for part in parts]):
        return ("second", parts)
    return None


def is_idle_paper(machine, cut, value):
    """True if the value is an idle paper of the cut, otherwise False."""
    check_cut_of_few(machine, cut)
    if not isinstance(value, tuple) or len(value) != 2:
        return False
    lot, told = value
    if lot == "first":
        return _are_idle_standings(machine, cut, told)
    return lot == "second" and _are_idle_sets(machine, cut, told)


def live_words(machine, cut):
    """The least words of the first lot and of the second lot that are not empty, or None if the cut is idle."""
    check_cut_of_few(machine, cut)
    letters, moves, ends = machine
    first = _least_longer_word(
        letters,
        0,
        lambda standing, number: moves[standing][number],
        lambda standing: standing in cut)
    second = _least_longer_word(
        letters,
        cut,
        lambda part, number: led_on(moves, part, number),
        lambda part: is_within(part, ends))
    return None if first is None or second is None else (first, second)


def _is_row(machine, value):
    if not isinstance(value, tuple) or len(value) != 2:
        return False
    standing, parts = value
    if not is_integer(standing) or not 0 <= standing < len(machine[1]) or not isinstance(parts, tuple):
        return False
    # Different cuts are few, but any value may tell one many times over: too many to hold each against each.
    if not all([has_cut(machine, part) for part in parts]) or len(set(parts)) < len(parts):
        return False
    return parts == inmost(parts)


def _are_idle_standings(machine, cut, value):
    letters, moves, _ = machine
    if not are_ascending(value, len(moves)) or any([standing in cut for standing in value]):
        return False
    led = [moves[0][number] for number in range(letters)]
    return _are_led_to(letters, led, value, lambda standing, number: moves[standing][number])


def _are_idle_sets(machine, cut, value):
    letters, moves, ends = machine
    if not isinstance(value, tuple) or not all([has_cut(machine, part) for part in value]):
        return False
    if any([is_within(part, ends) for part in value]):
        return False
    led = [led_on(moves, cut, number) for number in range(letters)]
    return _are_led_to(letters, led, value, lambda part, number: led_on(moves, part, number))


def _are_led_to(letters, starts, states, step):
    """True if the starts are among the states, and with each one all those to which the letters lead from it."""
    told = {state: True for state in states}
    if not all([start in told for start in starts]):
        return False
    return all([step(state, number) in told for state in told for number in range(letters)])


def _behind(letters, start, step):
    """The ascending tuple of the states to which words that are not empty lead."""
    states, rows = all_states(letters, start, step)
    return tuple(sorted({states[at] for row in rows for at in row}))


def _least_longer_word(letters, start, step, is_goal):
    """The least word that is not empty and leads from the start to a goal, or None."""
    return least_word(
        letters,
        (False, start),
        lambda state, number: (True, step(state[1], number)),
        lambda state: state[0] and is_goal(state[1]))

"""Smallest machines that are made of other ones, as patterns and shelves make them."""

from seamlots.cuts import led_on
from seamlots.machines import LETTERS, check_few
from seamlots.search import step_of_pairs
from seamlots.smallest import smallest_of

JOINING_WAYS = ("or", "and", "then")
TURNING_WAYS = ("not", "many")
# "many" of a machine with more standings, and "then" with such a one behind, would be looked for among too many sets.
MOST_STANDINGS_BEGUN_ANEW = 6


def joined(way, one, other):
    """What "or", "and" or "then" makes of two smallest machines with as many letters; raises TooMany."""
    if way == "then":
        check_few(other, MOST_STANDINGS_BEGUN_ANEW)
        return _one_behind_other(one, other)
    return _both_at_once(way, one, other)


def turned(way, one):
    """What "not" or "many" makes of a smallest machine; raises TooMany."""
    if way == "many":
        check_few(one, MOST_STANDINGS_BEGUN_ANEW)
        return star_of(one)
    letters, moves, ends = one
    return (letters, moves, tuple([standing for standing in range(len(moves)) if standing not in ends]))


def of_word(letters, word):
    """The smallest machine of the word alone."""
    lost = -1

    # A state is the number of letters of the word that were read, or lost.
    def step(many, number):
        if many != lost and word[many:many + 1] == LETTERS[number]:
            return many + 1
        return lost

    return smallest_of(letters, 0, step, lambda many: many == len(word))


def star_of(machine):
    """The smallest machine of the star of the machine; raises TooMany."""
    letters, moves, ends = machine

    # A state is whether the word is one of the star, and where the words of the machine that are begun so far lead.
    def step(state, number):
        _, led = state
        led = led_on(moves, led, number)
        if _has_one_of(led, ends):
            return (True, _begun_anew(led))
        return (False, led)

    return smallest_of(letters, (True, (0,)), step, lambda state: state[0])


def _both_at_once(way, one, other):
    def is_end(pair):
        if way == "or":
            return pair[0] in one[2] or pair[1] in other[2]
        return pair[0] in one[2] and pair[1] in other[2]

    return smallest_of(one[0], (0, 0), step_of_pairs(one, other), is_end)


def _one_behind_other(one, other):
    letters, moves, ends = one
    _, own_moves, own_ends = other

    # A state is the standing of the one, and where the words of the other that are begun so far lead.
    def state_of(standing, led):
        if standing in ends:
            return (standing, _begun_anew(led))
        return (standing, led)

    def step(state, number):
        standing, led = state
        return state_of(moves[standing][number], led_on(own_moves, led, number))

    return smallest_of(letters, state_of(0, ()), step, lambda state: _has_one_of(state[1], own_ends))


def _begun_anew(standings):
    return tuple(sorted(set(standings + (0,))))


def _has_one_of(standings, ends):
    return any([standing in ends for standing in standings])

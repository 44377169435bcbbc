"""Patterns of words, and the smallest machines of their words."""

from seamlots.machines import check_letters, is_word_of
from seamlots.making import JOINING_WAYS, TURNING_WAYS, joined, of_word, turned
from seamlots.wrongs import NoPattern

MOST_LETTERS = 30
MOST_DEEP = 8


def is_pattern(letters, value):
    """True if the value is a pattern of so many letters, otherwise False."""
    check_letters(letters)
    return _is_pattern_within(letters, value, MOST_DEEP)


def machine_of(letters, pattern):
    """The smallest machine of the words of the pattern; raises TooMany(6) and TooMany(32) from within."""
    check_letters(letters)
    if not _is_pattern_within(letters, pattern, MOST_DEEP):
        raise NoPattern("this is no pattern of these letters")
    return _made_of(letters, pattern)


def _is_pattern_within(letters, value, deep):
    if deep == 0 or not isinstance(value, tuple) or len(value) < 2:
        return False
    way = value[0]
    if way == "word":
        return len(value) == 2 and _is_short_word(letters, value[1])
    if way in TURNING_WAYS:
        many = 1
    elif way in JOINING_WAYS:
        many = 2
    else:
        return False
    return len(value) == 1 + many and all([_is_pattern_within(letters, part, deep - 1) for part in value[1:]])


def _is_short_word(letters, value):
    return isinstance(value, str) and len(value) <= MOST_LETTERS and is_word_of(letters, value)


def _made_of(letters, pattern):
    way = pattern[0]
    if way == "word":
        return of_word(letters, pattern[1])
    one = _made_of(letters, pattern[1])
    if way in TURNING_WAYS:
        return turned(way, one)
    return joined(way, one, _made_of(letters, pattern[2]))

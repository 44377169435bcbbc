"""Machines of standings and the words that they take."""

from seamlots.wrongs import NoLetters, NoMachine, NotAlike, NoWord, TooMany

LETTERS = "abc"
MOST_STANDINGS = 32


def is_machine(value):
    """True if the value is a machine, otherwise False."""
    if not isinstance(value, tuple) or len(value) != 3:
        return False
    letters, moves, ends = value
    return is_letters(letters) and _are_moves(moves, letters) and are_ascending(ends, len(moves))


def is_word(machine, value):
    """True if the value is a word of the machine, otherwise False."""
    check_machine(machine)
    return is_word_of(machine[0], value)


def standing_of(machine, word):
    """The standing to which the word leads from 0."""
    check_machine(machine)
    check_word(machine, word)
    return standings_along(machine, word)[-1]


def takes(machine, word):
    """True if the machine takes the word, otherwise False."""
    return standing_of(machine, word) in machine[2]


def is_integer(value):
    """True if the value is an integer, otherwise False."""
    # True and False are ints to Python, but not to the document.
    return isinstance(value, int) and not isinstance(value, bool)


def is_letters(value):
    """True if the value is a number of letters, otherwise False."""
    return is_integer(value) and 1 <= value <= len(LETTERS)


def are_ascending(value, many):
    """True if the value is an ascending tuple of some of the integers from 0 on and below many, otherwise False."""
    if not isinstance(value, tuple):
        return False
    last = -1
    for one in value:
        if not is_integer(one) or not last < one < many:
            return False
        last = one
    return True


def is_word_of(letters, value):
    """True if the value is a word of so many letters, otherwise False."""
    own_letters = LETTERS[:letters]
    return isinstance(value, str) and all(letter in own_letters for letter in value)


def standings_along(machine, word):
    """The standings to which all beginnings of the word lead from 0, from the empty one on."""
    moves = machine[1]
    standings = [0]
    for letter in word:
        standings.append(moves[standings[-1]][LETTERS.index(letter)])
    return standings


def check_machine(value):
    """Raises NoMachine if the value is not a machine."""
    if not is_machine(value):
        raise NoMachine("this is no machine")


def check_letters(value):
    """Raises NoLetters if the value is not a number of letters."""
    if not is_letters(value):
        raise NoLetters("this is no number of letters")


def check_word(machine, value):
    """Raises NoWord if the value is not a word of the machine."""
    if not is_word_of(machine[0], value):
        raise NoWord("this is no word of the machine")


def check_alike(one, other):
    """Raises NotAlike if the two machines have other numbers of letters."""
    if one[0] != other[0]:
        raise NotAlike("the machines have other numbers of letters")


def check_few(machine, limit):
    """Raises TooMany if the machine has more standings than the limit."""
    if len(machine[1]) > limit:
        raise TooMany(limit)


def _are_moves(value, letters):
    if not isinstance(value, tuple) or not 1 <= len(value) <= MOST_STANDINGS:
        return False
    return all([_is_row(row, letters, len(value)) for row in value])


def _is_row(value, letters, many):
    if not isinstance(value, tuple) or len(value) != letters:
        return False
    return all([is_integer(standing) and 0 <= standing < many for standing in value])

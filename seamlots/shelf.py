"""A shelf that stores machines under names, makes machines of them, and goes back to marks."""

from seamlots.machines import check_alike, is_integer
from seamlots.making import JOINING_WAYS, TURNING_WAYS, joined, turned
from seamlots.products import splitting_cuts
from seamlots.smallest import parting_word, smallest
from seamlots.told import lacking_word
from seamlots.wrongs import NameTaken, NoMark, NoName, NoWay, TooMany, UnknownName

MOST_MACHINES = 12
MOST_MARKS = 6
MOST_LETTERS_OF_NAMES = 8


class Shelf:
    """Smallest machines, each under a name of its own, and marks of what was stored."""

    def __init__(self):
        self._stored = {}
        # What was stored at each mark: dicts that are never changed.
        self._marked = []

    def put(self, name, machine):
        """Stores the smallest machine of the machine."""
        self._check_free(name)
        self._store(name, smallest(machine))

    def join(self, name, way, one, other):
        """Stores what "or", "and" or "then" makes of the machines of two names."""
        self._check_free(name)
        _check_way(way, JOINING_WAYS)
        first = self.machine(one)
        second = self.machine(other)
        check_alike(first, second)
        self._store(name, joined(way, first, second))

    def turn(self, name, way, one):
        """Stores what "not" or "many" makes of the machine of a name."""
        self._check_free(name)
        _check_way(way, TURNING_WAYS)
        self._store(name, turned(way, self.machine(one)))

    def remove(self, name):
        """Removes the name and its machine."""
        self._check_known(name)
        del self._stored[name]

    def mark(self):
        """Makes a mark of what is stored now, and returns its number."""
        if len(self._marked) >= MOST_MARKS:
            raise TooMany(MOST_MARKS)
        self._marked.append(dict(self._stored))
        return len(self._marked) - 1

    def back(self, number):
        """Restores all that the mark of that number stored, and removes all later marks."""
        if not is_integer(number) or not 0 <= number < len(self._marked):
            raise NoMark(number)
        self._stored = dict(self._marked[number])
        del self._marked[number + 1:]

    def marks(self):
        """The ascending list of the numbers of the marks."""
        return list(range(len(self._marked)))

    def names(self):
        """The ascending list of the names."""
        return sorted(self._stored)

    def machine(self, name):
        """The smallest machine of the name."""
        self._check_known(name)
        return self._stored[name]

    def equal_names(self):
        """The ascending list of the ascending lists of the names whose machines are equal."""
        groups = {}
        for name in sorted(self._stored):
            groups.setdefault(self._stored[name], []).append(name)
        return sorted(groups.values())

    def parting(self, one, other):
        """The least parting word of the machines of two names, or None."""
        first = self.machine(one)
        second = self.machine(other)
        return parting_word(first, second)

    def split(self, name):
        """The least cut that splits the machine of the name and is not idle, or None."""
        cuts = splitting_cuts(self.machine(name))
        return cuts[0] if cuts else None

    def lacking(self, name, first):
        """The least lacking word of the machine of the name for the machine of the name first, or None."""
        machine = self.machine(name)
        return lacking_word(machine, self.machine(first))

    def _check_free(self, name):
        if not _is_name(name):
            raise NoName(name)
        if name in self._stored:
            raise NameTaken(name)

    def _check_known(self, name):
        # What is no name need not be hashable.
        if not _is_name(name) or name not in self._stored:
            raise UnknownName(name)

    def _store(self, name, machine):
        if len(self._stored) >= MOST_MACHINES:
            raise TooMany(MOST_MACHINES)
        self._stored[name] = machine


def _is_name(value):
    if not isinstance(value, str) or not 1 <= len(value) <= MOST_LETTERS_OF_NAMES:
        return False
    return all(["a" <= letter <= "z" for letter in value])


def _check_way(way, ways):
    if way not in ways:
        raise NoWay("this is no such way")

"""Searches among states to which words lead and that are made only when they are found.

A state is anything that can be the key of a dict. Letters are numbered from 0 here: step(state, number) is the state
to which the letter of that number leads. Both searches go on by one letter after the other from the states in the
order in which they were found: so the first word that finds a state is the least one that leads to it.
"""

from seamlots.machines import LETTERS


def all_states(letters, start, step):
    """The states to which words lead, in the order of their least words, and for each a row of numbers of states."""
    numbers = {start: 0}
    states = [start]
    rows = []
    while len(rows) < len(states):
        state = states[len(rows)]
        row = []
        for number in range(letters):
            found = step(state, number)
            if found not in numbers:
                numbers[found] = len(states)
                states.append(found)
            row.append(numbers[found])
        rows.append(tuple(row))
    return states, rows


def least_word(letters, start, step, is_goal):
    """The least word that leads from the start to a goal, or None."""
    words = {start: ""}
    states = [start]
    at = 0
    while at < len(states):
        state = states[at]
        if is_goal(state):
            return words[state]
        for number in range(letters):
            found = step(state, number)
            if found not in words:
                words[found] = words[state] + LETTERS[number]
                states.append(found)
        at += 1
    return None

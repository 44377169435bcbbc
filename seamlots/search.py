"""Searches among states to which words lead and that are made only when they are found.

A state is anything that can be the key of a dict. Letters are numbered from 0 here: step(state, number) is the state
to which the letter of that number leads. All searches go on by one letter after the other from the states in the
order in which they were found: so the first word that finds a state is the least one that leads to it.
"""

from seamlots.machines import LETTERS


def all_states(letters, start, step):
    """The states to which words lead, in the order of their least words, and for each a row of numbers of states."""
    numbers = {start: 0}
    states = [start]
    rows = []
    while len(rows) < len(states):
        state = states[len(rows)]
        row = []
        for number in range(letters):
            found = step(state, number)
            if found not in numbers:
                numbers[found] = len(states)
                states.append(found)
            row.append(numbers[found])
        rows.append(tuple(row))
    return states, rows


def least_word(letters, start, step, is_goal):
    """The least word that leads from the start to a goal, or None."""
    return least_word_of_some(letters, [start], lambda state, number: [step(state, number)], is_goal)


def least_word_of_some(letters, starts, steps, is_goal):
    """The least word that can lead from a start to a goal, or None; steps tells all states to which a letter can."""
    seen = {state: True for state in starts}
    # What one word finds is looked at together: else the words would not come in their order.
    groups = [("", starts)]
    at = 0
    while at < len(groups):
        word, states = groups[at]
        if any([is_goal(state) for state in states]):
            return word
        for number in range(letters):
            found = []
            for state in states:
                for to in steps(state, number):
                    if to not in seen:
                        seen[to] = True
                        found.append(to)
            if found:
                groups.append((word + LETTERS[number], found))
        at += 1
    return None


def step_of_pairs(one, other):
    """The step that leads the first standing of a pair in the machine one, and the second standing in the other."""
    one_moves = one[1]
    other_moves = other[1]
    return lambda pair, number: (one_moves[pair[0]][number], other_moves[pair[1]][number])

"""Where a machine can get on a line of letters when it may go to and fro on it.

A view is all that the rest of a line needs to know of the line so far: for each state, in which states the
machine can be back at the last node if it starts there in this state; and in which states it can be at the
last node if it starts at node 0 in its beginning.
"""

from withinany.machines import BEGINNING
from withinany.machines import has_state
from withinany.machines import reached_by

OTHER_DIRECTION = {2: 3, 3: 2, 4: 5, 5: 4}


def view_of_no_letters(machine):
    returns = [1 << state for state in range(machine.state_count)]
    return (tuple(returns), BEGINNING)


def any_number_of_times(rows):
    """The states that each state leads to, if the rows may be gone one behind another, however often."""
    closed = list(rows)
    for middle in range(len(closed)):
        for state in range(len(closed)):
            if has_state(closed[state], middle):
                closed[state] |= closed[middle]
    return closed


def view_one_letter_on(machine, view, letter):
    ahead = machine.moves[letter]
    back = machine.moves[OTHER_DIRECTION[letter]]
    rows = []
    for state in range(machine.state_count):
        there_again = reached_by(view[0], back[state])
        rows.append((1 << state) | reached_by(ahead, there_again))
    returns = any_number_of_times(rows)
    reached = reached_by(returns, reached_by(ahead, view[1]))
    return (tuple(returns), reached)


def view_leads_along(machine, view):
    return (view[1] & machine.final) != 0


def leads_along(machine, letters):
    view = view_of_no_letters(machine)
    for letter in letters:
        view = view_one_letter_on(machine, view, letter)
    return view_leads_along(machine, view)

"""A machine for an expression: it goes, letter by letter, just the rows by which the expression leads straight.

State 0 is the beginning; state k is that the letter which stands k-th in the expression was gone last.
Several states together are one whole number: the bit number k is set if state k is among them.
"""

from withinany.codes import AGAIN
from withinany.codes import HIGHEST_LETTER
from withinany.codes import IN_ORDER
from withinany.codes import LETTER
from withinany.codes import LOWEST_LETTER
from withinany.codes import STAY
from withinany.codes import letters_in

BEGINNING = 1


class Machine:
    """moves[letter][state]: the states that the letter leads to from a state."""

    def __init__(self, letter_count, moves, final):
        self.letter_count = letter_count
        self.state_count = letter_count + 1
        self.moves = moves
        self.final = final


class Piece:
    """An expression within a larger one: may it go no letter, and which states can be its first and its last."""

    def __init__(self, may_stay, begins, ends):
        self.may_stay = may_stay
        self.begins = begins
        self.ends = ends


def has_state(states, state):
    return ((states >> state) & 1) == 1


def reached_by(rows, states):
    """All that the rows tell for one of the states at least."""
    reached = 0
    for state, row in enumerate(rows):
        if has_state(states, state):
            reached |= row
    return reached


def link(followers, ends, begins):
    """Lets each of the states that begin follow on each of those that end."""
    for state in range(len(followers)):
        if has_state(ends, state):
            followers[state] |= begins


def piece_again(piece, followers):
    link(followers, piece.ends, piece.begins)
    return Piece(True, piece.begins, piece.ends)


def piece_in_order(left, right, followers):
    link(followers, left.ends, right.begins)
    begins = left.begins | right.begins if left.may_stay else left.begins
    ends = left.ends | right.ends if right.may_stay else right.ends
    return Piece(left.may_stay and right.may_stay, begins, ends)


def piece_either(left, right):
    return Piece(left.may_stay or right.may_stay, left.begins | right.begins, left.ends | right.ends)


def piece_of_two(kind, left, right, followers):
    if kind == IN_ORDER:
        return piece_in_order(left, right, followers)
    return piece_either(left, right)


def whole_piece(parts, followers):
    """The piece that all parts make together. What follows on each state is put down in followers."""
    pieces = []
    state = len(followers) - 1
    # From the last part to the first, so that what a part is made of is there before it.
    for part in reversed(parts):
        kind = part[0]
        if kind == STAY:
            pieces.append(Piece(True, 0, 0))
        elif kind == LETTER:
            pieces.append(Piece(False, 1 << state, 1 << state))
            state -= 1
        elif kind == AGAIN:
            pieces.append(piece_again(pieces.pop(), followers))
        else:
            left = pieces.pop()
            right = pieces.pop()
            pieces.append(piece_of_two(kind, left, right, followers))
    return pieces.pop()


def states_of_letter(letters, letter):
    states = 0
    for place, other in enumerate(letters):
        if other == letter:
            states |= 1 << (place + 1)
    return states


def moves_of(letters, followers):
    moves = {}
    for letter in range(LOWEST_LETTER, HIGHEST_LETTER + 1):
        states = states_of_letter(letters, letter)
        moves[letter] = [row & states for row in followers]
    return moves


def machine_of(parts):
    letters = letters_in(parts)
    followers = [0] * (len(letters) + 1)
    whole = whole_piece(parts, followers)
    followers[0] = whole.begins
    final = whole.ends | BEGINNING if whole.may_stay else whole.ends
    return Machine(len(letters), moves_of(letters, followers), final)


def machine_that_leads_nowhere():
    """No expression is like it: it goes no row at all, not even that of no letters."""
    return Machine(0, moves_of([], [0]), 0)


def leads_straight(machine, letters):
    states = BEGINNING
    for letter in letters:
        states = reached_by(machine.moves[letter], states)
    return (states & machine.final) != 0

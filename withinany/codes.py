"""Reading what is handed in: a code, with the parts that an expression has; and a line's letters."""

from withinany.refusals import NotAsTold
from withinany.refusals import TooLarge

STAY = 0
LETTER = 1
IN_ORDER = 2
EITHER = 3
AGAIN = 4

# For each kind of part, how many codes follow it.
CODES_BEHIND = (0, 0, 2, 2, 1)

LOWEST_LETTER = 2
HIGHEST_LETTER = 5

MOST_NUMBERS = 60
MOST_PARTS = 30
MOST_LETTERS_OF_LINE = 20


def is_letter(number):
    return LOWEST_LETTER <= number and number <= HIGHEST_LETTER


def read_part(code, place):
    """The part that begins at a place: its kind, and its letter (0 if it is none)."""
    kind = code[place]
    if kind >= len(CODES_BEHIND):
        raise NotAsTold()
    if kind != LETTER:
        return (kind, 0)
    if place + 1 == len(code) or not is_letter(code[place + 1]):
        raise NotAsTold()
    return (kind, code[place + 1])


def read_parts(code):
    """The parts of a code in the order in which they stand there, each before those in it."""
    if len(code) > MOST_NUMBERS:
        raise NotAsTold()
    parts = []
    place = 0
    codes_missing = 1
    while codes_missing > 0:
        if place == len(code):
            raise NotAsTold()
        part = read_part(code, place)
        parts.append(part)
        place += 2 if part[0] == LETTER else 1
        codes_missing += CODES_BEHIND[part[0]] - 1
    if place < len(code):
        raise NotAsTold()
    return parts


def letters_in(parts):
    """The letters of an expression, each as often as it stands there."""
    return [letter for kind, letter in parts if kind == LETTER]


def read_allowed_parts(code, most_letters):
    """The parts of a code, if it is one and isn't too large."""
    parts = read_parts(code)
    if len(parts) > MOST_PARTS or len(letters_in(parts)) > most_letters:
        raise TooLarge()
    return parts


def read_line(letters):
    """The letters of a line, if they are letters and not too many."""
    if len(letters) > MOST_LETTERS_OF_LINE:
        raise NotAsTold()
    for number in letters:
        if not is_letter(number):
            raise NotAsTold()
    return letters

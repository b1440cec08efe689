"""The calls on two expressions, one behind another."""

from withinany.codes import STAY
from withinany.codes import read_allowed_parts
from withinany.codes import read_line
from withinany.machines import leads_straight
from withinany.machines import machine_of
from withinany.refusals import NoLine
from withinany.refusals import NoSuchCall
from withinany.refusals import NotAsTold
from withinany.refusals import TooLarge
from withinany.search import is_within
from withinany.search import line_that_shows_it
from withinany.search import shortest_line
from withinany.views import leads_along

ONE = 0
TWO = 1
WITHIN = 2
ALIKE = 3
LEADS = 4
STRAIGHT = 5
SHORTEST = 6
SWAP = 7

# one, two, leads and straight: what they are handed stands behind them as a row.
CALLS_WITH_A_ROW = (0, 1, 4, 5)

MOST_LETTERS_OF_FIRST = 6
MOST_LETTERS_OF_SECOND = 3

REFUSED_FORM = -1
REFUSED_NO_LINE = -3
REFUSED_SIZE = -5


def yes_or_no(holds):
    return 1 if holds else 0


class Questions:
    """The first expression and the second, each as its machine."""

    def __init__(self):
        self.first = machine_of([(STAY, 0)])
        self.second = machine_of([(STAY, 0)])

    def take_first(self, code):
        self.first = machine_of(read_allowed_parts(code, MOST_LETTERS_OF_FIRST))
        return [0]

    def take_second(self, code):
        self.second = machine_of(read_allowed_parts(code, MOST_LETTERS_OF_SECOND))
        return [0]

    def tell_within(self):
        line = line_that_shows_it(self.first, self.second)
        if line is None:
            return [1]
        return [0, len(line)] + line

    def refuse_unless_first_could_be_second(self):
        if self.first.letter_count > MOST_LETTERS_OF_SECOND:
            raise TooLarge()

    def tell_alike(self):
        self.refuse_unless_first_could_be_second()
        return [yes_or_no(is_within(self.first, self.second) and is_within(self.second, self.first))]

    def tell_leads(self, letters):
        return [yes_or_no(leads_along(self.second, read_line(letters)))]

    def tell_straight(self, letters):
        line = read_line(letters)
        return [yes_or_no(leads_straight(self.second, line)), yes_or_no(leads_straight(self.first, line))]

    def tell_shortest(self):
        line = shortest_line(self.first)
        if line is None:
            raise NoLine()
        return [len(line)] + line

    def swap(self):
        self.refuse_unless_first_could_be_second()
        first = self.first
        self.first = self.second
        self.second = first
        return [0]


def answer(questions, number, row):
    if number == ONE:
        return questions.take_first(row)
    if number == TWO:
        return questions.take_second(row)
    if number == WITHIN:
        return questions.tell_within()
    if number == ALIKE:
        return questions.tell_alike()
    if number == LEADS:
        return questions.tell_leads(row)
    if number == STRAIGHT:
        return questions.tell_straight(row)
    if number == SHORTEST:
        return questions.tell_shortest()
    if number == SWAP:
        return questions.swap()
    raise NoSuchCall()


def answer_or_refusal(questions, number, row):
    try:
        return answer(questions, number, row)
    except NotAsTold:
        return [REFUSED_FORM]
    except NoLine:
        return [REFUSED_NO_LINE]
    except TooLarge:
        return [REFUSED_SIZE]


def answers(calls):
    """What the calls answer, one behind another, each with how many numbers it answers before it."""
    questions = Questions()
    told = []
    place = 0
    while place < len(calls):
        number = calls[place]
        place += 1
        row = []
        if number in CALLS_WITH_A_ROW:
            row = calls[place + 1:place + 1 + calls[place]]
            place += 1 + len(row)
        numbers = answer_or_refusal(questions, number, row)
        told.append(len(numbers))
        told.extend(numbers)
    return told

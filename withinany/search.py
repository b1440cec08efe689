"""The search for the line that shows that one expression isn't within another, and for an expression's shortest."""

from withinany.codes import HIGHEST_LETTER
from withinany.codes import LOWEST_LETTER
from withinany.machines import BEGINNING
from withinany.machines import machine_that_leads_nowhere
from withinany.machines import reached_by
from withinany.views import view_leads_along
from withinany.views import view_of_no_letters
from withinany.views import view_one_letter_on


class Stop:
    """A line that the search has come to: the first's states at its end, the second's view of it, its last
    letter, and the number of the stop that is the line without this letter."""

    def __init__(self, states, view, letter, before):
        self.states = states
        self.view = view
        self.letter = letter
        self.before = before


class Search:
    """Comes to lines by length, and of as long ones from the first to the last. Stop 0 has no letters.

    A state of the first that was there with the same view before isn't gone on from again: whatever shows
    it from here shows it from there too, by a line that comes earlier.
    """

    def __init__(self, first, second):
        self.first = first
        self.second = second
        self.stops = []
        self.states_seen = {}
        self.views_on = {}

    def view_on(self, view, letter):
        key = (view, letter)
        if key not in self.views_on:
            self.views_on[key] = view_one_letter_on(self.second, view, letter)
        return self.views_on[key]

    def put_down(self, states, view, letter, before):
        seen = self.states_seen.get(view, 0)
        fresh = states & ~seen
        if fresh != 0:
            self.states_seen[view] = seen | fresh
            self.stops.append(Stop(fresh, view, letter, before))

    def go_on(self, number):
        stop = self.stops[number]
        for letter in range(LOWEST_LETTER, HIGHEST_LETTER + 1):
            states = reached_by(self.first.moves[letter], stop.states)
            if states != 0:
                self.put_down(states, self.view_on(stop.view, letter), letter, number)

    def shows_it(self, number):
        stop = self.stops[number]
        return (stop.states & self.first.final) != 0 and not view_leads_along(self.second, stop.view)

    def line_to(self, number):
        letters = []
        at = number
        while at > 0:
            letters.append(self.stops[at].letter)
            at = self.stops[at].before
        return list(reversed(letters))


def line_that_shows_it(first, second):
    """The letters of the line that shows that the first isn't within the second; None if it is."""
    search = Search(first, second)
    search.put_down(BEGINNING, view_of_no_letters(second), 0, 0)
    number = 0
    while number < len(search.stops):
        if search.shows_it(number):
            return search.line_to(number)
        search.go_on(number)
        number += 1
    return None


def is_within(first, second):
    return line_that_shows_it(first, second) is None


def shortest_line(machine):
    """The letters of the shortest line along which the machine leads straight; None if there's none."""
    # What leads nowhere leads along no line, so that each line of the machine's would show it.
    return line_that_shows_it(machine, machine_that_leads_nowhere())

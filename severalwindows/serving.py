"""Who goes to which window, and when."""


class Person:
    """One who comes at a minute and is served for so many minutes."""

    def __init__(self, comes, minutes):
        self.comes = comes
        self.minutes = minutes


class Visit:
    """A person's way through the office."""

    def __init__(self, person, window, begins):
        self.window = window
        self.comes = person.comes
        self.begins = begins
        self.done = begins + person.minutes
        self.waits = begins - person.comes


def serve(openings, persons):
    """The visit of each person, in their order, at windows that open at these minutes."""
    frees = list(openings)
    visits = []
    for person in persons:
        # index finds the first of like ones, as the order of the windows asks
        window = frees.index(min(frees))
        visit = Visit(person, window, max(frees[window], person.comes))
        frees[window] = visit.done
        visits.append(visit)
    return visits


def is_there(visit, minute):
    return visit.comes <= minute and minute < visit.done


def is_in_line(visit, minute):
    return visit.comes <= minute and minute < visit.begins


def is_at_window(visit, minute):
    return visit.begins <= minute and minute < visit.done

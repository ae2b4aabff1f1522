"""Who goes to which window, and when; and how it would be in another office."""


class Person:
    """One who comes at a minute and is served for so many minutes."""

    def __init__(self, comes, minutes):
        self.comes = comes
        self.minutes = minutes


class Visit:
    """A person's way through the office."""

    def __init__(self, person, window, begins):
        self.window = window
        self.comes = person.comes
        self.begins = begins
        self.done = begins + person.minutes
        self.waits = begins - person.comes


def serve(openings, persons):
    """The visit of each person, in their order, at windows that open at these minutes."""
    frees = list(openings)
    visits = []
    for person in persons:
        # index finds the first of like ones, as the order of the windows asks
        window = frees.index(min(frees))
        visit = Visit(person, window, max(frees[window], person.comes))
        frees[window] = visit.done
        visits.append(visit)
    return visits


def is_there(visit, minute):
    return visit.comes <= minute and minute < visit.done


def is_in_line(visit, minute):
    return visit.comes <= minute and minute < visit.begins


def is_at_window(visit, minute):
    return visit.begins <= minute and minute < visit.done


def wait_of_all(visits):
    return sum([visit.waits for visit in visits])


def longest_wait(visits):
    return max([visit.waits for visit in visits], default=0)


def last_done(visits):
    return max([visit.done for visit in visits], default=0)


def free_at_last(openings, visits):
    """When each window is free, once all have been served."""
    frees = list(openings)
    for visit in visits:
        frees[visit.window] = visit.done
    return frees


def saving(visits, others):
    """What all wait less, together, if they go as these others do."""
    return max(0, wait_of_all(visits) - wait_of_all(others))


def first_minute(persons):
    """The minute before which nobody can come behind these."""
    if len(persons) == 0:
        return 0
    return persons[-1].comes


# What supposes another office builds new lists and persons: the office that is asked stays as it is.


def opened_sooner(openings, window, minutes):
    changed = list(openings)
    changed[window] = max(0, openings[window] - minutes)
    return changed


def left_out(persons, who):
    return persons[:who] + persons[who + 1:]


def put_instead(persons, who, person):
    return persons[:who] + [person] + persons[who + 1:]


def served_faster(persons, who, minutes):
    person = persons[who]
    return put_instead(persons, who, Person(person.comes, max(0, person.minutes - minutes)))


def come_sooner(persons, who, minutes):
    person = persons[who]
    comes = max(first_minute(persons[:who]), person.comes - minutes)
    return put_instead(persons, who, Person(comes, person.minutes))


def fewest_windows(persons, minutes):
    """How few windows, all there from minute 0 on, let nobody wait longer than these minutes."""
    count = 1
    # this ends: with a window for each person nobody waits
    while longest_wait(serve([0] * count, persons)) > minutes:
        count = count + 1
    return count


def served_unhindered(persons, minute):
    """How many are served in this minute if each begins when it comes."""
    return len([person for person in persons if person.comes <= minute and minute < person.comes + person.minutes])


def most_at_once(persons):
    return max([served_unhindered(persons, person.comes) for person in persons], default=0)

"""Puts calls with names into the one list that the program takes, and takes its answers apart; makes up offices, and
serves them by a model that lets the minutes go by one after another."""

from severalwindows.office import answers

HIGHEST = 4294967295
MOST_CALLS = 200
LAST = 1900

NAMES = (
    "start", "come", "leave", "times", "wait", "sum", "longest", "over", "present", "line", "at", "of",
    "more", "without", "faster", "sooner", "earlier", "best", "fewest", "crowd", "open", "free", "state",
)


def flat(calls):
    """('start', 0, 5) or ('come', 3, 4), each as it stands in the list."""
    listed = []
    for name, *numbers in calls:
        listed.append(NAMES.index(name))
        if name == "start":
            listed.append(len(numbers))
        listed.extend(numbers)
    return listed


def apart(given):
    found = []
    place = 0
    while place < len(given):
        behind = place + 1 + given[place]
        if behind > len(given) or given[place] < 1:
            raise AssertionError(f"a count doesn't fit at {place}: {given}")
        found.append(given[place + 1:behind])
        place = behind
    return found


def ask(*calls):
    """The answers to these calls on a new object, one list each."""
    if len(calls) > MOST_CALLS:
        raise AssertionError(f"{len(calls)} calls are more than the program is asked to take")
    found = apart(answers(flat(calls)))
    if len(found) != len(calls):
        raise AssertionError(f"{len(calls)} calls, {len(found)} answers")
    return found


def last(*calls):
    return ask(*calls)[-1]


def after(before, *calls):
    """The answers to the calls alone that stand behind those before."""
    return ask(*before, *calls)[len(before):]


def after_many(before, calls):
    """As after, of more calls than one list may hold: each asked of an office built anew, by parts."""
    part = MOST_CALLS - len(before)
    found = []
    for place in range(0, len(calls), part):
        found.extend(after(before, *calls[place:place + part]))
    return found


def everything(persons, windows):
    """Calls that together show all that an office holds."""
    calls = [("sum",), ("longest",), ("over",), ("free",), ("state",), ("crowd",)]
    calls.extend(("times", i) for i in range(persons + 1))
    calls.extend(("wait", i) for i in range(persons + 1))
    calls.extend(("of", w) for w in range(windows + 1))
    return calls


def counted(found):
    return [len(found)] + found


def built(openings, persons):
    return [("start", *openings)] + [("come", comes, minutes) for comes, minutes in persons]


def made_up(source, least=0):
    """Windows and persons, of whom each is served at least so many minutes."""
    openings = [source.randrange(source.choice((1, 8, 40, 301))) for window in range(source.randint(1, 5))]
    count = source.randint(0, 20)
    latest = source.choice((1, 10, 60, 301))
    longest = source.choice((1, 4, 20, 61))
    comings = sorted(source.randrange(latest) for person in range(count))
    return openings, [(comes, max(least, source.randrange(longest))) for comes in comings]


def by_minutes(openings, persons):
    """For each person its window, when it comes, begins and is done."""
    frees = dict(enumerate(openings))
    visits = []
    for minute in range(LAST):
        while len(visits) < len(persons):
            comes, minutes = persons[len(visits)]
            ready = sorted((free, window) for window, free in frees.items() if free <= minute)
            if comes > minute or not ready:
                break
            window = ready[0][1]
            frees[window] = minute + minutes
            visits.append([window, comes, minute, minute + minutes])
    return visits


def all_wait(visits):
    return sum(begins - comes for window, comes, begins, done in visits)


def all_over(visits):
    return max((done for window, comes, begins, done in visits), default=0)

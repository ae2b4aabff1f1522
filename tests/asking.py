"""Puts calls with names into the one list that the program takes, and takes its answers apart."""

from severalwindows.office import answers

NAMES = (
    "start", "come", "leave", "times", "wait", "sum", "longest", "over", "present", "line", "at", "of",
    "more", "without", "faster", "sooner", "earlier", "best", "fewest", "crowd", "open", "free", "state",
)


def flat(calls):
    """('start', 0, 5) or ('come', 3, 4), each as it stands in the list."""
    listed = []
    for name, *numbers in calls:
        listed.append(NAMES.index(name))
        if name == "start":
            listed.append(len(numbers))
        listed.extend(numbers)
    return listed


def apart(given):
    found = []
    place = 0
    while place < len(given):
        behind = place + 1 + given[place]
        if behind > len(given) or given[place] < 1:
            raise AssertionError(f"a count doesn't fit at {place}: {given}")
        found.append(given[place + 1:behind])
        place = behind
    return found


def ask(*calls):
    """The answers to these calls on a new object, one list each."""
    found = apart(answers(flat(calls)))
    if len(found) != len(calls):
        raise AssertionError(f"{len(calls)} calls, {len(found)} answers")
    return found


def last(*calls):
    return ask(*calls)[-1]


def after(before, *calls):
    """The answers to the calls alone that stand behind those before."""
    return ask(*before, *calls)[len(before):]


def everything(persons, windows):
    """Calls that together show all that an office holds."""
    calls = [("sum",), ("longest",), ("over",)]
    calls.extend(("times", i) for i in range(persons + 1))
    calls.extend(("wait", i) for i in range(persons + 1))
    calls.extend(("of", w) for w in range(windows + 1))
    return calls

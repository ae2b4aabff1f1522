"""The calls on one office, one behind another, and what they answer."""

from severalwindows.serving import Person, come_sooner, fewest_windows, first_minute, free_at_last, is_at_window
from severalwindows.serving import is_in_line, is_there, last_done, left_out, most_at_once, opened_sooner, saving
from severalwindows.serving import serve, served_faster, wait_of_all

NO_SUCH = -2
NOBODY = -6
NOT_STARTED = -11
NOT_ALLOWED = -22
FULL = -28
NONE_FOUND = -33

MOST_WINDOWS = 5
MOST_PERSONS = 20
LAST_MINUTE = 300
MOST_MINUTES = 60
LAST_ASKED = 2000

START = 0

# By a call's number, how many whole numbers it takes. Start is none of these: its row tells its own length.
SIZES = (0, 2, 1, 1, 1, 0, 0, 0, 1, 1, 2, 1, 1, 1, 2, 2, 2, 1, 1, 0, 1, 0, 0)


class Office:
    """The windows and the persons as the calls have left them."""

    def __init__(self):
        self.openings = []
        self.persons = []

    def is_started(self):
        # a start with no window is refused, so that windows tell of a start
        return len(self.openings) > 0

    def visits(self):
        return serve(self.openings, self.persons)


def answer_start(office, openings):
    if len(openings) < 1 or len(openings) > MOST_WINDOWS:
        return [NOT_ALLOWED]
    if max(openings) > LAST_MINUTE:
        return [NOT_ALLOWED]
    office.openings = list(openings)
    office.persons = []
    return [len(openings)]


def answer_come(office, numbers):
    minute = numbers[0]
    minutes = numbers[1]
    if minute > LAST_MINUTE or minute < first_minute(office.persons) or minutes > MOST_MINUTES:
        return [NOT_ALLOWED]
    if len(office.persons) >= MOST_PERSONS:
        return [FULL]
    office.persons.append(Person(minute, minutes))
    return [len(office.persons) - 1]


def answer_leave(office, numbers):
    who = numbers[0]
    if who >= len(office.persons):
        return [NO_SUCH]
    waits = office.visits()[who].waits
    office.persons.pop(who)
    return [waits]


def answer_open(office, numbers):
    minute = numbers[0]
    if minute > LAST_MINUTE:
        return [NOT_ALLOWED]
    if len(office.openings) >= MOST_WINDOWS:
        return [FULL]
    office.openings.append(minute)
    return [len(office.openings) - 1]


def answer_times(office, numbers):
    who = numbers[0]
    if who >= len(office.persons):
        return [NO_SUCH]
    visit = office.visits()[who]
    return [visit.window, visit.comes, visit.begins, visit.done]


def answer_wait(office, numbers):
    who = numbers[0]
    if who >= len(office.persons):
        return [NO_SUCH]
    return [office.visits()[who].waits]


def answer_sum(office, numbers):
    return [wait_of_all(office.visits())]


def answer_longest(office, numbers):
    waits = [visit.waits for visit in office.visits()]
    if len(waits) == 0:
        return [NOBODY]
    longest = max(waits)
    return [longest, waits.index(longest)]


def answer_over(office, numbers):
    return [last_done(office.visits())]


def answer_present(office, numbers):
    minute = numbers[0]
    if minute > LAST_ASKED:
        return [NOT_ALLOWED]
    return [len([visit for visit in office.visits() if is_there(visit, minute)])]


def counted(found):
    """An answer that tells how many there are, then these."""
    return [len(found)] + found


def answer_line(office, numbers):
    minute = numbers[0]
    if minute > LAST_ASKED:
        return [NOT_ALLOWED]
    return counted([who for who, visit in enumerate(office.visits()) if is_in_line(visit, minute)])


def who_go_to(office, window):
    return [who for who, visit in enumerate(office.visits()) if visit.window == window]


def answer_at(office, numbers):
    window = numbers[0]
    minute = numbers[1]
    if window >= len(office.openings):
        return [NO_SUCH]
    visits = office.visits()
    for who in who_go_to(office, window):
        if is_at_window(visits[who], minute):
            return [who]
    return [NONE_FOUND]


def answer_of(office, numbers):
    window = numbers[0]
    if window >= len(office.openings):
        return [NO_SUCH]
    return counted(who_go_to(office, window))


def answer_free(office, numbers):
    return counted(free_at_last(office.openings, office.visits()))


def compared(office, others):
    """What would be saved if all went as these others do; then how long all would wait, when the last would be done."""
    return [saving(office.visits(), others), wait_of_all(others), last_done(others)]


def answer_more(office, numbers):
    minute = numbers[0]
    if minute > LAST_MINUTE:
        return [NOT_ALLOWED]
    # a sixth window may be supposed: only one that would be there for good is refused as too many
    return compared(office, serve(office.openings + [minute], office.persons))


def answer_without(office, numbers):
    who = numbers[0]
    if who >= len(office.persons):
        return [NO_SUCH]
    return compared(office, serve(office.openings, left_out(office.persons, who)))


def answer_faster(office, numbers):
    who = numbers[0]
    if who >= len(office.persons):
        return [NO_SUCH]
    return compared(office, serve(office.openings, served_faster(office.persons, who, numbers[1])))


def answer_sooner(office, numbers):
    who = numbers[0]
    if who >= len(office.persons):
        return [NO_SUCH]
    visits = serve(office.openings, come_sooner(office.persons, who, numbers[1]))
    return [visits[who].comes, wait_of_all(visits), last_done(visits)]


def visits_earlier(office, window, minutes):
    return serve(opened_sooner(office.openings, window, minutes), office.persons)


def answer_earlier(office, numbers):
    window = numbers[0]
    if window >= len(office.openings):
        return [NO_SUCH]
    return compared(office, visits_earlier(office, window, numbers[1]))


def answer_best(office, numbers):
    visits = office.visits()
    minutes = numbers[0]
    count = len(office.openings)
    savings = [saving(visits, visits_earlier(office, window, minutes)) for window in range(count)]
    most = max(savings)
    return [savings.index(most), most]


def answer_fewest(office, numbers):
    if len(office.persons) == 0:
        return [NONE_FOUND]
    return [fewest_windows(office.persons, numbers[0])]


def answer_crowd(office, numbers):
    return [most_at_once(office.persons)]


def answer_state(office, numbers):
    return [len(office.persons)] + office.openings


ANSWERERS = {
    0: answer_start,
    1: answer_come,
    2: answer_leave,
    3: answer_times,
    4: answer_wait,
    5: answer_sum,
    6: answer_longest,
    7: answer_over,
    8: answer_present,
    9: answer_line,
    10: answer_at,
    11: answer_of,
    12: answer_more,
    13: answer_without,
    14: answer_faster,
    15: answer_sooner,
    16: answer_earlier,
    17: answer_best,
    18: answer_fewest,
    19: answer_crowd,
    20: answer_open,
    21: answer_free,
    22: answer_state,
}


def answer_call(office, call, numbers):
    if call != START and not office.is_started():
        return [NOT_STARTED]
    return ANSWERERS[call](office, numbers)


def answers(calls):
    """What each call answers, in order, with how many numbers that are ahead of it."""
    office = Office()
    given = []
    place = 0
    while place < len(calls):
        call = calls[place]
        first = place + 1
        size = SIZES[call]
        if call == START:
            size = calls[first]
            first = first + 1
        answer = answer_call(office, call, calls[first:first + size])
        given.append(len(answer))
        given.extend(answer)
        place = first + size
    return given

"""The calls on a group that is photographed: what each one refuses, does and answers."""

from standrows.group import APART
from standrows.group import Group
from standrows.group import NEAR
from standrows.group import count_moved

NONE_SUCH = -2
NOT_PLACED = -6
NOT_TOLD = -6
NOT_BEGUN = -11
IMPOSSIBLE = -16
SO_ALREADY = -17
OUT_OF_RANGE = -22
TOO_MANY = -28
NO_ORDER = -33
NOBODY_IN_FRONT = -33
NO_GOOD_PLACE = -33

MOST_PEOPLE = 20
BEGIN = 0

# How many numbers each call has behind its own, by the calls' numbers. Begin's steps come on top of its three.
ARGUMENT_COUNTS = (3, 1, 3, 1, 2, 2, 2, 2, 1, 0, 1, 0, 0, 1, 1, 1, 1, 1, 1, 1, 1, 1, 1, 0, 1, 1, 0, 0)


def is_within(number, least, most):
    return least <= number and number <= most


def refuse_person(group, p):
    """The refusal that is due of a person who has to be placed, or 0."""
    if not group.has_person(p):
        return NONE_SUCH
    if not group.is_placed(p):
        return NOT_PLACED
    return 0


def refuse_pair(group, p, q):
    """The refusal that is due of two people who have to be there and not the same, or 0."""
    if not group.has_person(p) or not group.has_person(q):
        return NONE_SUCH
    if p == q:
        return OUT_OF_RANGE
    return 0


def begin(group, given):
    width = given[0]
    face = given[1]
    # given[2] tells only how many steps follow it.
    steps = given[3:]
    if not is_within(width, 1, 6) or not is_within(face, 5, 60) or not is_within(len(steps), 1, 5):
        return [OUT_OF_RANGE]
    if not all([is_within(step, 0, 200) for step in steps]):
        return [OUT_OF_RANGE]
    group.begin(width, face, steps)
    return [0]


def person(group, given):
    height = given[0]
    if len(group.heights) >= MOST_PEOPLE:
        return [TOO_MANY]
    if not is_within(height, 50, 250):
        return [OUT_OF_RANGE]
    return [group.add_person(height)]


def put(group, given):
    p = given[0]
    row_number = given[1]
    column_number = given[2]
    if not group.has_person(p):
        return [NONE_SUCH]
    if not group.has_row(row_number) or not group.has_column(column_number):
        return [OUT_OF_RANGE]
    if group.person_at(row_number, column_number) is not None:
        return [IMPOSSIBLE]
    group.place(p, row_number, column_number)
    return [int(group.is_seen(p))]


def off(group, given):
    p = given[0]
    refusal = refuse_person(group, p)
    if refusal < 0:
        return [refusal]
    spot = group.spots[p]
    group.take_off(p)
    return list(spot)


def swap(group, given):
    p = given[0]
    q = given[1]
    refusal = refuse_pair(group, p, q)
    if refusal < 0:
        return [refusal]
    if not group.is_placed(p) or not group.is_placed(q):
        return [NOT_PLACED]
    group.change_places(p, q)
    return [0]


def tell_pair(group, given, word):
    p = given[0]
    q = given[1]
    refusal = refuse_pair(group, p, q)
    if refusal < 0:
        return [refusal]
    told = group.told_of(p, q)
    if told == word:
        return [SO_ALREADY]
    if told is not None:
        return [IMPOSSIBLE]
    group.tell(p, q, word)
    return [len(group.pairs_told(word))]


def wish(group, given):
    return tell_pair(group, given, NEAR)


def apart(group, given):
    return tell_pair(group, given, APART)


def forget(group, given):
    p = given[0]
    q = given[1]
    refusal = refuse_pair(group, p, q)
    if refusal < 0:
        return [refusal]
    if group.told_of(p, q) is None:
        return [NOT_TOLD]
    group.forget(p, q)
    return [0]


def seen(group, given):
    p = given[0]
    refusal = refuse_person(group, p)
    if refusal < 0:
        return [refusal]
    return [int(group.is_seen(p))]


def hidden(group, given):
    people = group.hidden_people()
    return [len(people)] + people


def hides(group, given):
    p = given[0]
    refusal = refuse_person(group, p)
    if refusal < 0:
        return [refusal]
    people = group.hiders(p)
    return [len(people)] + people


def everybody(group, given):
    return [int(group.everybody_is_seen())]


def met(group, given):
    near_met = len(group.pairs_met(NEAR))
    apart_met = len(group.pairs_met(APART))
    near_told = len(group.pairs_told(NEAR))
    apart_told = len(group.pairs_told(APART))
    return [near_met + apart_met, near_told, near_met, apart_told, apart_met]


def column(group, given):
    if not group.has_column(given[0]):
        return [OUT_OF_RANGE]
    standing = group.column_people(given[0])
    order = group.seen_order(standing)
    if order is None:
        return [NO_ORDER]
    return [count_moved(standing, order)] + order


def mend(group, given):
    # What column tells is done, so that both can't differ; form and seat go by shape and please likewise.
    told = column(group, given)
    if told[0] < 0:
        return told
    group.stand_so(group.column_people(given[0]), told[1:])
    return [told[0]]


def row(group, given):
    if not group.has_row(given[0]):
        return [OUT_OF_RANGE]
    people = [group.person_at(given[0], column_number) for column_number in range(group.width)]
    shown = [0 if p is None else p + 1 for p in people]
    return [len(group.row_people(given[0]))] + shown


def hill(group, given):
    if not group.has_row(given[0]):
        return [OUT_OF_RANGE]
    return [int(group.is_hill(group.row_people(given[0])))]


def shape(group, given):
    if not group.has_row(given[0]):
        return [OUT_OF_RANGE]
    standing = group.row_people(given[0])
    order = group.hill_order(standing)
    return [count_moved(standing, order)] + order


def form(group, given):
    told = shape(group, given)
    if told[0] < 0:
        return told
    group.stand_so(group.row_people(given[0]), told[1:])
    return [told[0]]


def please(group, given):
    if not group.has_row(given[0]):
        return [OUT_OF_RANGE]
    standing = group.row_people(given[0])
    order = group.near_order(standing)
    return [group.near_beside(order, group.joints(standing))] + order


def seat(group, given):
    told = please(group, given)
    if told[0] < 0:
        return told
    standing = group.row_people(given[0])
    group.stand_so(standing, told[1:])
    return [told[0], count_moved(standing, told[1:])]


def beside(group, given):
    p = given[0]
    refusal = refuse_person(group, p)
    if refusal < 0:
        return [refusal]
    people = group.people_around(p)
    return [len(people)] + people


def spare(group, given):
    p = given[0]
    refusal = refuse_person(group, p)
    if refusal < 0:
        return [refusal]
    heads = [group.head(other) for other in group.people_in_front(p)]
    if len(heads) == 0:
        return [NOBODY_IN_FRONT]
    higher = group.head(p) - (max(heads) + group.face)
    return [max(higher, 0), max(-higher, 0)]


def free(group, given):
    places = group.free_places()
    told = [len(places)]
    for place in places:
        told.extend(place)
    return told


def good(group, given):
    p = given[0]
    if not group.has_person(p):
        return [NONE_SUCH]
    place = group.good_place(p)
    if place is None:
        return [NO_GOOD_PLACE]
    return list(place)


def look(group, given):
    p = given[0]
    if not group.has_person(p):
        return [NONE_SUCH]
    if not group.is_placed(p):
        return [group.heights[p], 0, 0, 0]
    return [group.heights[p], 1] + list(group.spots[p])


def sums(group, given):
    placed_count = len(group.placed_people())
    hidden_count = len(group.hidden_people())
    near_told = len(group.pairs_told(NEAR))
    apart_told = len(group.pairs_told(APART))
    return [len(group.heights), placed_count, placed_count - hidden_count, hidden_count, near_told, apart_told]


def state(group, given):
    return [group.width, group.face, len(group.steps)] + group.steps


# By the calls' numbers, from 0 on.
CALLS = (
    begin, person, put, off, swap, wish, apart, forget, seen, hidden, hides, everybody, met, column, mend, row, hill,
    shape, form, please, seat, beside, spare, free, good, look, sums, state,
)


def end_of_call(calls, start):
    """Where the call ends that begins at this index: one behind its last number."""
    end = start + 1 + ARGUMENT_COUNTS[calls[start]]
    if calls[start] == BEGIN:
        return end + calls[end - 1]
    return end


def answer_call(group, number, given):
    if number != BEGIN and not group.begun:
        return [NOT_BEGUN]
    return CALLS[number](group, given)


def answers(calls):
    """What the calls on one new group answer, each answer with its length before it."""
    group = Group()
    told = []
    start = 0
    while start < len(calls):
        end = end_of_call(calls, start)
        answer = answer_call(group, calls[start], calls[start + 1:end])
        told.append(len(answer))
        told.extend(answer)
        start = end
    return told

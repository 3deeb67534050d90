"""Calls by their names, for the tests: told as tuples, answered as lists."""

from standrows.photo import answers

NAMES = (
    "begin", "person", "put", "off", "swap", "wish", "apart", "forget", "seen", "hidden", "hides", "all", "met",
    "column", "mend", "row", "hill", "shape", "form", "please", "seat", "beside", "spare", "free", "good", "look",
    "sums", "state",
)


def flat(calls):
    """The list of whole numbers that the interface takes for these calls."""
    numbers = []
    for call in calls:
        numbers.append(NAMES.index(call[0]))
        for value in call[1:]:
            if isinstance(value, list):
                numbers.append(len(value))
                numbers.extend(value)
            else:
                numbers.append(value)
    return numbers


def split(told):
    """What is given back, one list an answer."""
    found = []
    at = 0
    while at < len(told):
        found.append(told[at + 1:at + 1 + told[at]])
        at += 1 + told[at]
    if at != len(told):
        raise ValueError("the last answer is cut off")
    return found


def ask(calls):
    """The answers to these calls on a new object."""
    found = split(answers(flat(calls)))
    if len(found) != len(calls):
        raise ValueError("not one answer a call")
    return found


def last(calls):
    """The answer to the last of these calls."""
    return ask(calls)[-1]


def standing(face, steps, width, people):
    """The calls by which these people come to stand: (height, row, column), or (height,) who isn't placed."""
    calls = [("begin", width, face, list(steps))]
    for number, who in enumerate(people):
        calls.append(("person", who[0]))
        if len(who) == 3:
            calls.append(("put", number, who[1], who[2]))
    return calls


def looks(people):
    """Calls that show where each of so many people stands."""
    return [("look", p) for p in range(people)]


def held(calls, people):
    """Where each of so many people stands behind these calls: (row, column), or None."""
    found = ask(calls + looks(people))[len(calls):]
    return [(told[2], told[3]) if told[1] else None for told in found]


def probe(people, width):
    """Calls that between them show all that an object with so many people holds."""
    calls = [("state",), ("sums",), ("free",), ("met",), ("hidden",), ("all",)] + looks(people)
    for column in range(width + 1):
        calls.append(("column", column))
    for row in range(6):
        calls.append(("row", row))
        calls.append(("please", row))
    for p in range(people):
        calls.append(("hides", p))
    for p in range(people):
        for q in range(p + 1, people):
            calls.append(("wish", p, q))
            calls.append(("apart", p, q))
            calls.append(("forget", p, q))
    for p in range(people):
        calls.append(("off", p))
    # The number of one more tells how many there were; where they stand seen shows face, steps and rows.
    calls.append(("person", 100))
    calls.append(("person", 100))
    calls.append(("put", people, 0, 0))
    for row in range(1, 6):
        calls.append(("put", people + 1, row, 0))
    return calls

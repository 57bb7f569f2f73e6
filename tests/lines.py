"""Lines of calls by name, and their answers call by call."""

from whatcanbedesk.facts import answers

NAMES = (
    "begin", "deed", "event", "undeed", "unevent", "deedis", "eventis", "set_to", "now", "able", "do",
    "wait", "reach", "canbe", "fewest", "row", "undo", "lost", "settled", "never", "byitself", "play",
)
LARGEST = 4294967295


def listed(calls):
    """The one list of whole numbers for calls such as ("deed", 1, 1, 2, 2)."""
    numbers = []
    for call in calls:
        given = list(call[1:])
        numbers += [NAMES.index(call[0]), len(given)] + given + [0]
    return numbers


def split(told):
    """The answers, a list each, out of the list that is given back."""
    found = []
    place = 0
    while place < len(told):
        many = told[place]
        answer = told[place + 1:place + 1 + many]
        if many < 0 or len(answer) != many:
            raise AssertionError(f"the counts don't fit: {told}")
        found.append(answer)
        place += 1 + many
    return found


def ask(*calls):
    """What each of the calls answers, on one new object."""
    told = answers(listed(calls))
    if type(told) is not list or any(type(number) is not int for number in told):
        raise AssertionError(f"not a list of whole numbers: {told}")
    found = split(told)
    if len(found) != len(calls):
        raise AssertionError(f"{len(calls)} calls, {len(found)} answers")
    return found


def last(*calls):
    """What the last of the calls answers."""
    return ask(*calls)[-1]

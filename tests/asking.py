"""What the tests share: the calls by name, and ways to ask them."""

from movedkeys.desk import answers
from movedkeys.house import House

MOST = 4294967295


def begin(groups, n):
    return [0, groups, n]


def event(key, v):
    return [1, key, v]


def alarm(key, time):
    return [2, key, time]


def mark(m):
    return [3, m]


def move(g, w):
    return [4, g, w]


def rescale(n):
    return [5, n]


def take(w):
    return [6, w]


def come(k):
    return [7, k]


def turns(n):
    return [8, n]


def said(n):
    return [9, n]


def key(k):
    return [10, k]


def worker(w):
    return [11, w]


def trips():
    return [12]


def ask(*calls):
    """The answer to each of the calls, asked as one list."""
    flat = [number for call in calls for number in call]
    given = answers(flat)
    split = []
    while given:
        split.append(given[1:1 + given[0]])
        given = given[1 + given[0]:]
    return split


def last(*calls):
    return ask(*calls)[-1]


def rows(numbers, width):
    """The rows of an answer that tells how many there are, then each."""
    flat = numbers[1:1 + numbers[0] * width]
    return [tuple(flat[at:at + width]) for at in range(0, len(flat), width)]


def house_after(*calls):
    """A house on which the calls were made, to look into."""
    house = House()
    methods = [house.begin, house.event, house.alarm, house.mark, house.move, house.rescale, house.take,
               house.come, house.turns, house.said, house.key, house.worker, house.trips]
    for call in calls:
        methods[call[0]](*call[1:])
    return house


def picture(value):
    """All that an object keeps, as plain values that can be compared."""
    if isinstance(value, (list, tuple)):
        return [picture(one) for one in value]
    if isinstance(value, dict):
        return [(one, picture(value[one])) for one in value]
    if hasattr(value, "__dict__"):
        return picture(vars(value))
    return value

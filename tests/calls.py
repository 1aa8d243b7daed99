"""The calls by their names, and the answers call by call."""

from kindshares.places import answers

GREATEST = 4294967295


def start(*row):
    return [0, len(row), *row]


def seeds(i, j, n):
    return [1, i, j, n]


def worths(i, a, b, c):
    return [2, i, a, b, c]


def share(x, y):
    return [3, x, y]


def told():
    return [4]


def mean(i):
    return [5, i]


def kinds(i):
    return [6, i]


def generation():
    return [7]


def after(n):
    return [8, n]


def way():
    return [9]


def way_at(x, y):
    return [10, x, y]


def enters():
    return [11]


def enters_other():
    return [12]


def both():
    return [13]


def at_place(i):
    return [14, i]


def more(x, y):
    return [15, x, y]


def best():
    return [16]


def near(n):
    return [17, n]


def place(i):
    return [18, i]


def state():
    return [19]


def joined(calls):
    return [number for call in calls for number in call]


def apart(numbers):
    """The answers of a whole list, one list each."""
    parts = []
    at = 0
    while at < len(numbers):
        end = at + 1 + numbers[at]
        if end > len(numbers):
            raise ValueError("an answer is shorter than it says")
        parts.append(numbers[at + 1:end])
        at = end
    return parts


def ask(*calls):
    parts = apart(answers(joined(calls)))
    if len(parts) != len(calls):
        raise ValueError(f"{len(calls)} calls, {len(parts)} answers")
    return parts


def last(*calls):
    return ask(*calls)[-1]


def everything(places):
    """Calls that change nothing and together show all that an object keeps."""
    shown = [told(), after(1), after(2), way(), way_at(1, 3), enters(), enters_other(), both(), more(3, 10), best(),
             near(5), state()]
    for at in range(places):
        shown += [mean(at), kinds(at), at_place(at), place(at)]
    return shown

"""What the tests write calls with, and how they read the answers."""

from onelanedesk.bridge import answers

MOST_NUMBER = 4294967295


def begins(turn, *spans):
    """spans: one behind another, of each how many cells, its limit."""
    return [0, turn, len(spans)] + list(spans)


def comes(side, weight):
    return [1, side, weight]


def gives(vehicle):
    return [2, vehicle]


def ticks(many):
    return [3, many]


def limit(span, most):
    return [4, span, most]


def shut(truth):
    return [5, truth]


def where(vehicle):
    return [6, vehicle]


def when(vehicle):
    return [7, vehicle]


def loads():
    return [8]


def queue(side):
    return [9, side]


def most():
    return [10]


def state():
    return [11]


def asked(*calls):
    """The answers to some calls on one bridge, each as a list of its own."""
    return told(answers([number for call in calls for number in call]))


def told(given):
    """Answers as they are given back, taken apart: each stands behind its length."""
    apart = []
    start = 0
    while start < len(given):
        end = start + 1 + given[start]
        if end > len(given):
            raise AssertionError("the last answer is cut off")
        apart.append(given[start + 1:end])
        start = end
    return apart


def last(*calls):
    """The answer to the last one of some calls on one bridge."""
    return asked(*calls)[-1]


def tick_by_tick(call, many, *calls):
    """Behind some calls, tick by tick: what one more call answers then."""
    return asked(*calls, *[ticks(1), call] * many)[len(calls) + 1::2]


def times_of_leaving(many, *calls):
    """Behind some calls, tick by tick: a list of (time, vehicle) of those that left."""
    met = asked(*calls, *[ticks(1) for past in range(many)])[len(calls):]
    return [(answer[0], vehicle) for answer in met for vehicle in answer[2:]]

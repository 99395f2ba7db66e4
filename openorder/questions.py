"""The calls on one order, read from one list of numbers and answered in another."""

from openorder.order import Order

THINGS = 0
LESS = 1
UNDO = 2
MANY = 3
NTH = 4
RANK = 5
CHANCE = 6
BOTH = 7
SPREAD = 8
FAIREST = 9
FEWEST = 10
NEXT_PAIRS = 11
LIKELY = 12

# By the call's number: how many whole numbers it has, besides a row.
LENGTHS = (1, 2, 0, 0, 1, 0, 2, 3, 1, 0, 0, 0, 0, 2)


def end_of_call(calls, start):
    """The place behind the last number of the call that begins at start."""
    number = calls[start]
    end = start + 1 + LENGTHS[number]
    if number == RANK:
        return end + 1 + calls[end]
    return end


def answer(order, number, numbers):
    """What the call of this number answers, with the numbers that stand behind it."""
    if number == THINGS:
        return order.things(numbers[0])
    if number == LESS:
        return order.less(numbers[0], numbers[1])
    if number == UNDO:
        return order.undo()
    if number == MANY:
        return order.many()
    if number == NTH:
        return order.nth(numbers[0])
    if number == RANK:
        # The first of the numbers only tells how long the row is.
        return order.rank(numbers[1:])
    if number == CHANCE:
        return order.chance(numbers[0], numbers[1])
    if number == BOTH:
        return order.both(numbers[0], numbers[1], numbers[2])
    if number == SPREAD:
        return order.spread(numbers[0])
    if number == FAIREST:
        return order.fairest()
    if number == FEWEST:
        return order.fewest()
    if number == NEXT_PAIRS:
        return order.next_pairs()
    if number == LIKELY:
        return order.likely()
    # Only 13, is_below, is left: LENGTHS has no place for a number above it.
    return order.is_below(numbers[0], numbers[1])


def answers(calls):
    """For each call, in order: how many numbers are answered, then these."""
    order = Order()
    given = []
    start = 0
    while start < len(calls):
        end = end_of_call(calls, start)
        found = answer(order, calls[start], calls[start + 1:end])
        given.append(len(found))
        given.extend(found)
        start = end
    return given

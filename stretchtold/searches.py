"""Searches: the least number for which something holds, and a loop of steps that weighs below 0."""


def least_that(holds, low, high):
    """The least number from low to high for which holds.

    It is to hold from some number on; for high it is taken to, and not asked.
    """
    while low < high:
        middle = (low + high) // 2
        if holds(middle):
            high = middle
        else:
            low = middle + 1
    return low


def lead_on(steps, weights, last):
    """Lead ways on by all steps that make them lighter; the last place where one did, None if none did.

    For each place, weights tells the weight of the lightest way found, and last its last step.
    """
    lighter = None
    for step in steps:
        _, start, goal, weight = step
        if weights[start] + weight < weights[goal]:
            weights[goal] = weights[start] + weight
            last[goal] = step
            lighter = goal
    return lighter


def loop_through(last, place):
    """The marks of the last steps by which a way comes to a place from the place itself."""
    marks = []
    goal = place
    while not marks or goal != place:
        mark, goal = last[goal][:2]
        marks.append(mark)
    return tuple(marks[::-1])


def losing_loop(places, steps):
    """The marks of steps, one behind the other, from a place back to it, that weigh below 0 together.

    None if there are none. A step is a tuple (mark, start, goal, weight), the places being
    counted from 0. The steps found come to no place twice, so they are at most as many as these.
    """
    weights = [0] * places
    last = [None] * places
    place = 0
    for _ in range(places):
        place = lead_on(steps, weights, last)
        if place is None:
            return None
    # A way that is still made lighter after so many rounds has come to some place twice,
    # and as many steps back lead into the loop by which it did.
    for _ in range(places):
        place = last[place][1]
    return loop_through(last, place)

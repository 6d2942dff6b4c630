"""What a stream leaves open: steps that put more on a tie, or take something off it."""

from gainroads.fractions import compared, over, taken, times


def steps_of(number, tie, much):
    """The steps that a tie leaves on which so much goes."""
    begin, end, most, gain, price = tie
    steps = []
    if compared(much, most) < 0:
        steps.append((number, False, begin, end, taken(most, much), gain))
    if compared(much, (0, 1)) > 0:
        steps.append((number, True, end, begin, times(much, gain), over((1, 1), gain)))
    return steps


def left_steps(net, stream):
    """All steps that a stream leaves, by numbers, False ahead of True."""
    steps = []
    for number, tie in enumerate(net[1]):
        steps.extend(steps_of(number, tie, stream[number]))
    return steps

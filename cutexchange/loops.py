"""Loop papers (ahead, round, by): steps that come round to the same change, made lesser."""

from cutexchange.grids import bottom_of_all
from cutexchange.numbers import is_number, is_whole, must_be_from_to, over, times
from cutexchange.steps import MOST_STEPS, is_even, step_of, steps_done


def loop_shown(change, thing):
    """Whether a thing, of whatever kind, is a loop paper of a change."""
    if not isinstance(thing, tuple) or len(thing) != 3:
        return False
    ahead, around, by = thing
    if not are_steps(ahead, around) or not is_number(change[0], by):
        return False
    first = steps_done(change, ahead)[1]
    # Where steps end sooner, even those ahead, none go on from there.
    sorts, lesser = steps_done(first, around)
    if len(sorts) < around or first[2] != lesser[2]:
        return False
    # Each step leaves a lesser whole of longs above 0, so a by that fits is above 0 and below 1.
    return all(times(change[0], by, long) == less_long for long, less_long in zip(first[1], lesser[1]))


def loop_of(change, most):
    """The loop paper with the least steps ahead and round together, at most so many; None where there is none."""
    must_be_from_to(most, 1, MOST_STEPS)
    passed = [without_bottoms(change)]
    for together in range(1, most + 1):
        if is_even(passed[-1]):
            return None
        sort, lesser = step_of(passed[-1])
        for around in range(1, together + 1):
            first = passed[-around]
            if first[2] == lesser[2] and are_in_one_ratio(change[0], first[1], lesser[1]):
                return (together - around, around, over(change[0], lesser[1][0], first[1][0]))
        passed.append(lesser)
    return None


def are_steps(ahead, around):
    """Whether two things are numbers of steps, from 0 and from 1 on, together at most 200."""
    if not is_whole(ahead) or not is_whole(around):
        return False
    return ahead >= 0 and around >= 1 and ahead + around <= MOST_STEPS


def without_bottoms(change):
    """The change whose longs are those of a change, all times the least number that leaves no bottoms."""
    # Its steps are of the same sorts and come round alike, and numbers without a bottom are in lowest terms at once.
    root, longs, order = change
    scale = (bottom_of_all(longs), 0, 1)
    return (root, tuple([times(root, long, scale) for long in longs]), order)


def are_in_one_ratio(root, longs, others):
    """Whether each of the others is by its long what the first one is by the first long."""
    first, other_first = longs[0], others[0]
    return all(times(root, first, other) == times(root, long, other_first) for long, other in zip(longs, others))

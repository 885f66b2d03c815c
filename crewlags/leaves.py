"""How few leaves a paper without "energy" can have: the parts in which there are no other ones.

A pair that is ahead already changes nothing, so a set with such a pair is never worth
a part. So there are as many moments as sets of pairs, and what is told of one is kept, as
is what is told of some chosen modes.
"""

from crewlags.couples import both_ways
from crewlags.masks import all_sets
from crewlags.moments import first_stock_over, with_mode
from crewlags.ties import lift


def summed(numbers):
    """The sum of some numbers, None if one of them is None."""
    return None if None in numbers else sum(numbers)


def least_told(numbers):
    """The least of some numbers that are not None, or None."""
    return min([number for number in numbers if number is not None], default=None)


def sets_apart(reading, choice):
    """The sets of two or more of which one member has to come behind another one, as their pairs."""
    sets = [some for some in all_sets(len(choice)) if reading.is_apart(choice, some)]
    return [both_ways(some) for some in sets]


def sums_behind(reading, choice, apart, ahead, known):
    """For each set with no pair ahead the sum of the fewest leaves behind each of its pairs."""
    sums = []
    for pairs in apart:
        if not any([pair in ahead for pair in pairs]):
            later = [tuple(sorted(ahead + (pair,))) for pair in pairs]
            sums.append(summed([fewest_behind(reading, choice, apart, more, known) for more in later]))
    return sums


def fewest_behind(reading, choice, apart, ahead, known):
    """The fewest leaves at a moment at which all modes are chosen, or None."""
    if ahead not in known:
        places, _ = lift(reading.spot_rows(choice), reading.ties(ahead))
        sums = [1] if places is None else sums_behind(reading, choice, apart, ahead, known)
        known[ahead] = least_told(sums)
    return known[ahead]


def fewest_chosen(reading, chosen, known):
    """The fewest leaves at a moment at which nothing is ahead, or None."""
    if chosen not in known:
        if first_stock_over(reading.project, chosen) is not None:
            known[chosen] = 1
        elif None not in chosen:
            known[chosen] = fewest_behind(reading, chosen, sets_apart(reading, chosen), (), {})
        else:
            known[chosen] = least_told(sums_of_modes(reading, chosen, known))
    return known[chosen]


def sums_of_modes(reading, chosen, known):
    """For each activity without a mode the sum of the fewest leaves with each of its modes."""
    sums = []
    for a, mode in enumerate(chosen):
        if mode is None:
            moments = [with_mode(chosen, a, at) for at in range(len(reading.project.modes[a]))]
            sums.append(summed([fewest_chosen(reading, moment, known) for moment in moments]))
    return sums


def fewest_at(reading, chosen):
    """The fewest leaves of a paper that begins at a moment, or None."""
    return fewest_chosen(reading, chosen, {})

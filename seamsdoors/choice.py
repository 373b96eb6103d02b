"""What can be chosen for a plan, and which choice is best: a first strip, a way round, a width, a door's end."""

from seamsdoors.plan import seams_of, narrowest_width, carpet_needed, is_clear

ALONG = 0
ACROSS = 1


def clear_firsts(plan):
    """The clear first strips' widths, rising."""
    return [first for first in range(1, plan.wide + 1) if is_clear(plan, first)]


def some_first_is_clear(plan):
    return len(clear_firsts(plan)) > 0


def best_first(plan):
    """The best first strip's width, or None if none is clear."""
    def merit(first):
        seams = seams_of(plan, first)
        return (-len(seams), narrowest_width(plan, first, seams), first)

    return max(clear_firsts(plan), key=merit, default=None)


def strips_by(plan, first):
    return len(seams_of(plan, first)) + 1


def least_carpet(choices):
    """Of pairs of a number and a plan the one that needs least carpet, with its best first strip.

    It is told as a tuple: how much carpet, the number, the first strip's width.
    None: by no plan a first strip is clear.
    """
    found = []
    for number, plan in choices:
        first = best_first(plan)
        if first is not None:
            found.append((carpet_needed(plan, strips_by(plan, first)), number, first))
    # The number stands behind the carpet: of those that need alike, the one with the least number is taken.
    return min(found, default=None)


def best_way_round(plan):
    return least_carpet([(ALONG, plan), (ACROSS, plan.turned())])


def best_width(plan, low, high):
    return least_carpet([(wide, plan.with_wide(wide)) for wide in range(low, high + 1)])


def fit_widths(plan, low, high):
    """The widths of strips from low to high with which some first strip is clear, rising."""
    return [wide for wide in range(low, high + 1) if some_first_is_clear(plan.with_wide(wide))]


def next_seam(plan, first, place):
    """The first seam beyond the place: the wall, if there is none."""
    return min([seam for seam in seams_of(plan, first) if seam > place], default=plan.across)


def widest_end(plan, low):
    """The greatest place up to which one door more may go from low on, or None if no first strip is clear.

    A first strip that is clear stays so till the door goes beyond its next seam.
    """
    return max([next_seam(plan, first, low) for first in clear_firsts(plan)], default=None)

"""A second, slow telling of the calls, to hold the program against.

It keeps no room, but the changes since begin: what the room is, is told anew
from the first change on at each call. Strips are laid place by place, and what
is best is found by trying all there is.
"""

import functools

QUESTIONS = (
    "seams", "strips", "clear", "firsts", "best", "fewest", "way_round", "widths", "best_width", "could", "widest",
    "hits",
)


def room_after(begun, changes):
    wide, across, along = begun
    doors, sides = [], []
    for name, *numbers in changes:
        if name == "wide":
            wide = numbers[0]
        elif name == "room":
            across, along = numbers
        elif name == "turn":
            across, along, doors, sides = along, across, sides, doors
        elif name in ("door", "side"):
            (doors if name == "door" else sides).append(numbers)
        else:
            (doors if name == "undoor" else sides).pop(numbers[0])
    return wide, across, along, doors, sides


@functools.lru_cache(maxsize=None)
def strips_laid(wide, across, first):
    """How wide each strip is: place by place, another strip where one is full."""
    widths, full = [0], first
    for place in range(across):
        if widths[-1] == full:
            widths.append(0)
            full = wide
        widths[-1] += 1
    return tuple(widths)


@functools.lru_cache(maxsize=None)
def seams_laid(wide, across, first):
    widths = strips_laid(wide, across, first)
    return tuple(sum(widths[:count]) for count in range(1, len(widths)))


def places_within(door):
    return set(range(door[0] + 1, door[1]))


def clear_ones(wide, across, doors):
    barred = set().union(*[places_within(door) for door in doors])
    return [first for first in range(1, wide + 1) if not barred.intersection(seams_laid(wide, across, first))]


def best_one(wide, across, doors):
    """The best first strip and how wide the strips are by it, or None."""
    left = [(first, strips_laid(wide, across, first)) for first in clear_ones(wide, across, doors)]
    if not left:
        return None
    fewest = min(len(widths) for first, widths in left)
    left = [(first, widths) for first, widths in left if len(widths) == fewest]
    widest = max(min(widths) for first, widths in left)
    left = [(first, widths) for first, widths in left if min(widths) == widest]
    return left[-1]


def best_told(room, name):
    wide, across, along, doors, sides = room
    found = best_one(wide, across, doors)
    if name != "way_round":
        if found is None:
            return [-33]
        return [found[0], len(found[1]), min(found[1])] if name == "best" else [len(found[1])]
    turned = best_one(wide, along, sides)
    if found is None and turned is None:
        return [-33]
    if turned is None or found is not None and len(found[1]) * along <= len(turned[1]) * across:
        return [0, found[0], len(found[1]) * wide * along]
    return [1, turned[0], len(turned[1]) * wide * across]


def widths_told(room, name, low, high):
    wide, across, along, doors, sides = room
    if low == 0 or high < low or high > 60:
        return [-22]
    fit = [width for width in range(low, high + 1) if clear_ones(width, across, doors)]
    if name == "widths":
        return [len(fit)] + fit
    least = None
    for width in fit:
        carpet = len(best_one(width, across, doors)[1]) * width * along
        if least is None or carpet < least[1]:
            least = [width, carpet]
    return least or [-33]


def one_more_told(room, low, high):
    """What could answers; and widest, which tells no high: one place after another, from the wall on."""
    wide, across, along, doors, sides = room
    if high is not None:
        if low >= high or high > across:
            return [-22]
        return [1 if clear_ones(wide, across, doors + [(low, high)]) else 0]
    if low >= across:
        return [-22]
    for place in reversed(range(low + 1, across + 1)):
        if clear_ones(wide, across, doors + [(low, place)]):
            return [place]
    return [-33]


def by_first_told(room, name, first):
    wide, across, along, doors, sides = room
    if not 1 <= first <= wide:
        return [-22]
    widths = strips_laid(wide, across, first)
    seams = seams_laid(wide, across, first)
    if name == "seams":
        return [len(seams), *seams]
    if name == "strips":
        return [len(widths), widths[-1], min(widths), len(widths) * wide * along]
    hit = [i for i in range(len(doors)) if places_within(doors[i]).intersection(seams)]
    return [len(hit)] + hit if name == "hits" else [0 if hit else 1]


def asked(room, name, numbers):
    wide, across, along, doors, sides = room
    if name in ("seams", "strips", "clear", "hits"):
        return by_first_told(room, name, numbers[0])
    if name == "firsts":
        clear = clear_ones(wide, across, doors)
        return [len(clear)] + clear
    if name in ("best", "fewest", "way_round"):
        return best_told(room, name)
    if name in ("widths", "best_width"):
        return widths_told(room, name, *numbers)
    return one_more_told(room, numbers[0], numbers[1] if name == "could" else None)


def changed(room, name, numbers):
    """The change's answer."""
    wide, across, along, doors, sides = room
    if name == "turn":
        return [along]
    if name == "wide":
        return [wide] if numbers[0] in range(1, 61) else [-22]
    if name == "room":
        if not all(number in range(1, 201) for number in numbers):
            return [-22]
        beyond = [door for door in doors if door[1] > numbers[0]] + [side for side in sides if side[1] > numbers[1]]
        return [-16] if beyond else [across, along]
    openings, wall = (doors, across) if name in ("door", "undoor") else (sides, along)
    if name in ("undoor", "unside"):
        return [len(openings) - 1] if numbers[0] < len(openings) else [-2]
    if numbers[0] >= numbers[1] or numbers[1] > wall:
        return [-22]
    return [-28] if len(openings) == 5 else [len(openings)]


def told(calls):
    """Each call's answer, as a list."""
    begun, changes, back_to, replies = None, [], 0, []
    for name, *numbers in calls:
        if name == "begin":
            good = numbers[0] in range(1, 61) and all(number in range(1, 201) for number in numbers[1:])
            if good:
                begun, changes, back_to = numbers, [], 0
            reply = [0] if good else [-22]
        elif begun is None:
            reply = [-61]
        elif name == "back":
            reply = [-2]
            if len(changes) > back_to:
                changes.pop()
                reply = [len(changes) - back_to]
        elif name == "state":
            wide, across, along, doors, sides = room_after(begun, changes)
            reply = [wide, across, along, len(doors), len(sides), len(changes) - back_to]
        elif name in QUESTIONS:
            reply = asked(room_after(begun, changes), name, numbers)
        else:
            reply = changed(room_after(begun, changes), name, numbers)
            if reply[0] >= 0:
                changes.append((name, *numbers))
                back_to = max(back_to, len(changes) - 10)
        replies.append(reply)
    return replies

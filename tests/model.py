"""A second, slow telling of the calls, to hold the program against.

It keeps no room, but the changes since begin: what the room is, is told anew
from the first change on at each call. Strips are laid place by place.
"""


def room_after(begun, changes):
    wide, across, along = begun
    doors, sides = [], []
    for name, *numbers in changes:
        if name == "wide":
            wide = numbers[0]
        elif name == "room":
            across, along = numbers
        elif name in ("door", "side"):
            (doors if name == "door" else sides).append(numbers)
        else:
            (doors if name == "undoor" else sides).pop(numbers[0])
    return wide, across, along, doors, sides


def strips_laid(wide, across, first):
    """How wide each strip is: place by place, another strip where one is full."""
    widths, full = [0], first
    for place in range(across):
        if widths[-1] == full:
            widths.append(0)
            full = wide
        widths[-1] += 1
    return widths


def asked(room, name, first):
    wide, across, along, doors, sides = room
    if not 1 <= first <= wide:
        return [-22]
    widths = strips_laid(wide, across, first)
    seams = [sum(widths[:count]) for count in range(1, len(widths))]
    if name == "seams":
        return [len(seams)] + seams
    if name == "strips":
        return [len(widths), widths[-1], min(widths), len(widths) * wide * along]
    places = [place for low, high in doors for place in range(low + 1, high)]
    return [0 if set(places) & set(seams) else 1]


def changed(room, name, numbers):
    """The change's answer."""
    wide, across, along, doors, sides = room
    if name == "wide":
        return [wide] if numbers[0] in range(1, 61) else [-22]
    if name == "room":
        if not all(number in range(1, 201) for number in numbers):
            return [-22]
        beyond = [door for door in doors if door[1] > numbers[0]] + [side for side in sides if side[1] > numbers[1]]
        return [-16] if beyond else [across, along]
    openings, wall = (doors, across) if name in ("door", "undoor") else (sides, along)
    if name in ("undoor", "unside"):
        return [len(openings) - 1] if numbers[0] < len(openings) else [-2]
    if numbers[0] >= numbers[1] or numbers[1] > wall:
        return [-22]
    return [-28] if len(openings) == 5 else [len(openings)]


def told(calls):
    """Each call's answer, as a list."""
    begun, changes, back_to, replies = None, [], 0, []
    for name, *numbers in calls:
        if name == "begin":
            good = numbers[0] in range(1, 61) and all(number in range(1, 201) for number in numbers[1:])
            if good:
                begun, changes, back_to = numbers, [], 0
            reply = [0] if good else [-22]
        elif begun is None:
            reply = [-61]
        elif name == "back":
            reply = [-2]
            if len(changes) > back_to:
                changes.pop()
                reply = [len(changes) - back_to]
        elif name in ("seams", "strips", "clear"):
            reply = asked(room_after(begun, changes), name, numbers[0])
        else:
            reply = changed(room_after(begun, changes), name, numbers)
            if reply[0] >= 0:
                changes.append((name, *numbers))
                back_to = max(back_to, len(changes) - 10)
        replies.append(reply)
    return replies

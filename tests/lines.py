"""Lines of calls told by their names, and their answers taken apart."""

from seamsdoors.carpet import answers

GREATEST = 4294967295

CALLS = (
    ("begin", 3), ("door", 2), ("side", 2), ("undoor", 1), ("unside", 1), ("wide", 1), ("room", 2), ("back", 0),
    ("seams", 1), ("strips", 1), ("clear", 1), ("firsts", 0), ("best", 0), ("fewest", 0), ("way_round", 0),
    ("turn", 0), ("widths", 2), ("best_width", 2), ("could", 2), ("widest", 1), ("hits", 1), ("state", 0),
)
NUMBERS = {name: number for number, (name, count) in enumerate(CALLS)}
COUNTS = dict(CALLS)


def line(calls):
    """The list of numbers that is handed in for calls such as ("door", 2, 4)."""
    if not 1 <= len(calls) <= 100:
        raise ValueError("a line holds 1 to 100 calls")
    told = []
    for call in calls:
        if len(call) - 1 != COUNTS[call[0]]:
            raise ValueError(f"not so many numbers belong to {call}")
        told.append(NUMBERS[call[0]])
        told.extend(call[1:])
    return told


def taken_apart(told):
    replies = []
    place = 0
    while place < len(told):
        behind = place + 1 + told[place]
        if told[place] < 1 or behind > len(told):
            raise ValueError(f"no whole answers: {told}")
        replies.append(told[place + 1:behind])
        place = behind
    return replies


def ask(*calls):
    """Each call's answer, as a list."""
    replies = taken_apart(answers(line(calls)))
    if len(replies) != len(calls):
        raise ValueError(f"{len(calls)} calls, but {len(replies)} answers")
    return replies


def ask_last(*calls):
    return ask(*calls)[-1]


def furnished(wide, across, along, doors=(), sides=()):
    """The calls that make such a room."""
    calls = [("begin", wide, across, along)]
    return calls + [("door", low, high) for low, high in doors] + [("side", low, high) for low, high in sides]


def looks():
    """Lines' ends by whose answers what a room is, and what can be taken back, can be told."""
    firsts = range(1, 13)
    for count in range(12):
        seen = [("state",), ("firsts",), ("hits", 1)]
        yield [("back",)] * count + seen + [("turn",)] + seen
    yield [("seams", 1), ("strips", 1), ("wide", 60)] + [("clear", o) for o in range(1, 61)]
    yield [("clear", o) for o in firsts] + [("strips", o) for o in firsts]
    yield [("room", across, 200) for across in range(1, 60)]
    yield [("room", 200, along) for along in range(1, 60)]
    yield [("undoor", 0)] * 6 + [("unside", 0)] * 6 + [("wide", 1)]
    for count in range(1, 12):
        yield [("back",)] * count + [("seams", 1), ("strips", 2), ("room", 200, 200), ("wide", 1)]
        yield [("back",)] * count + [("clear", o) for o in firsts] + [("undoor", 0)] * 6 + [("unside", 0)] * 6


def assert_refused(test, before, call, number):
    """The call, behind those before it, is answered the number alone, and nothing is changed by it."""
    for look in looks():
        told = ask(*before, call, *look)
        test.assertEqual(told[len(before)], [number], call)
        test.assertEqual(told[len(before) + 1:], ask(*before, *look)[len(before):], call)

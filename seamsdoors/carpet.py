"""The calls on one room, handed in as one list of whole numbers, and their answers."""

from seamsdoors.choice import clear_firsts, some_first_is_clear, best_first, strips_by, best_way_round
from seamsdoors.choice import fit_widths, best_width, widest_end
from seamsdoors.plan import Plan, is_strip_width, is_wall_length, is_first_width, lies_in_wall, all_end_within
from seamsdoors.plan import seams_of, last_width, narrowest_width, carpet_needed, hit_doors, is_clear
from seamsdoors.works import Works

NO_SUCH = -2
BEYOND_WALL = -16
NOT_AS_TOLD = -22
TOO_MANY = -28
NONE_CLEAR = -33
NOT_BEGUN = -61

MOST_OPENINGS = 5
BEGIN = 0

# How many numbers stand behind each call's own, from begin (0) to state (21).
ARGUMENT_COUNTS = (3, 2, 2, 1, 1, 1, 2, 0, 1, 1, 1, 0, 0, 0, 0, 0, 2, 2, 2, 1, 1, 0)


def call_begin(works, numbers):
    wide = numbers[0]
    across = numbers[1]
    along = numbers[2]
    if not (is_strip_width(wide) and is_wall_length(across) and is_wall_length(along)):
        return [NOT_AS_TOLD]
    works.begin_with(Plan(wide, across, along, (), ()))
    return [0]


def refusal_of_opening(openings, numbers, wall):
    """The refusal that is due if the door or side that numbers tell is put into the wall, or None."""
    if not lies_in_wall(numbers[0], numbers[1], wall):
        return NOT_AS_TOLD
    if len(openings) >= MOST_OPENINGS:
        return TOO_MANY
    return None


def call_door(works, numbers):
    plan = works.plan
    refusal = refusal_of_opening(plan.doors, numbers, plan.across)
    if refusal is not None:
        return [refusal]
    works.change_to(plan.with_doors(plan.doors + (tuple(numbers),)))
    return [len(plan.doors)]


def call_side(works, numbers):
    plan = works.plan
    refusal = refusal_of_opening(plan.sides, numbers, plan.along)
    if refusal is not None:
        return [refusal]
    works.change_to(plan.with_sides(plan.sides + (tuple(numbers),)))
    return [len(plan.sides)]


def without(openings, i):
    return openings[:i] + openings[i + 1:]


def call_undoor(works, numbers):
    plan = works.plan
    i = numbers[0]
    if i >= len(plan.doors):
        return [NO_SUCH]
    doors = without(plan.doors, i)
    works.change_to(plan.with_doors(doors))
    return [len(doors)]


def call_unside(works, numbers):
    plan = works.plan
    i = numbers[0]
    if i >= len(plan.sides):
        return [NO_SUCH]
    sides = without(plan.sides, i)
    works.change_to(plan.with_sides(sides))
    return [len(sides)]


def call_wide(works, numbers):
    plan = works.plan
    if not is_strip_width(numbers[0]):
        return [NOT_AS_TOLD]
    works.change_to(plan.with_wide(numbers[0]))
    return [plan.wide]


def call_room(works, numbers):
    plan = works.plan
    across = numbers[0]
    along = numbers[1]
    if not (is_wall_length(across) and is_wall_length(along)):
        return [NOT_AS_TOLD]
    if not (all_end_within(plan.doors, across) and all_end_within(plan.sides, along)):
        return [BEYOND_WALL]
    works.change_to(plan.with_room(across, along))
    return [plan.across, plan.along]


def call_back(works, numbers):
    if len(works.earlier) == 0:
        return [NO_SUCH]
    works.take_back()
    return [len(works.earlier)]


def call_seams(works, numbers):
    first = numbers[0]
    if not is_first_width(works.plan, first):
        return [NOT_AS_TOLD]
    seams = seams_of(works.plan, first)
    return [len(seams)] + seams


def call_strips(works, numbers):
    plan = works.plan
    first = numbers[0]
    if not is_first_width(plan, first):
        return [NOT_AS_TOLD]
    seams = seams_of(plan, first)
    strips = len(seams) + 1
    return [strips, last_width(plan, seams), narrowest_width(plan, first, seams), carpet_needed(plan, strips)]


def call_clear(works, numbers):
    first = numbers[0]
    if not is_first_width(works.plan, first):
        return [NOT_AS_TOLD]
    return [1 if is_clear(works.plan, first) else 0]


def call_firsts(works, numbers):
    firsts = clear_firsts(works.plan)
    return [len(firsts)] + firsts


def call_best(works, numbers):
    plan = works.plan
    first = best_first(plan)
    if first is None:
        return [NONE_CLEAR]
    seams = seams_of(plan, first)
    return [first, len(seams) + 1, narrowest_width(plan, first, seams)]


def call_fewest(works, numbers):
    first = best_first(works.plan)
    if first is None:
        return [NONE_CLEAR]
    return [strips_by(works.plan, first)]


def call_way_round(works, numbers):
    found = best_way_round(works.plan)
    if found is None:
        return [NONE_CLEAR]
    carpet = found[0]
    way = found[1]
    first = found[2]
    return [way, first, carpet]


def call_turn(works, numbers):
    plan = works.plan
    works.change_to(plan.turned())
    return [plan.along]


def are_widths(low, high):
    return is_strip_width(low) and low <= high and is_strip_width(high)


def call_widths(works, numbers):
    low = numbers[0]
    high = numbers[1]
    if not are_widths(low, high):
        return [NOT_AS_TOLD]
    widths = fit_widths(works.plan, low, high)
    return [len(widths)] + widths


def call_best_width(works, numbers):
    low = numbers[0]
    high = numbers[1]
    if not are_widths(low, high):
        return [NOT_AS_TOLD]
    found = best_width(works.plan, low, high)
    if found is None:
        return [NONE_CLEAR]
    carpet = found[0]
    wide = found[1]
    return [wide, carpet]


def call_could(works, numbers):
    plan = works.plan
    if not lies_in_wall(numbers[0], numbers[1], plan.across):
        return [NOT_AS_TOLD]
    # A sixth door may be asked after, too: it is not put there.
    asked = plan.with_doors(plan.doors + (tuple(numbers),))
    return [1 if some_first_is_clear(asked) else 0]


def call_widest(works, numbers):
    low = numbers[0]
    if low >= works.plan.across:
        return [NOT_AS_TOLD]
    end = widest_end(works.plan, low)
    if end is None:
        return [NONE_CLEAR]
    return [end]


def call_hits(works, numbers):
    first = numbers[0]
    if not is_first_width(works.plan, first):
        return [NOT_AS_TOLD]
    doors = hit_doors(works.plan, first)
    return [len(doors)] + doors


def call_state(works, numbers):
    plan = works.plan
    return [plan.wide, plan.across, plan.along, len(plan.doors), len(plan.sides), len(works.earlier)]


STEPS = (
    call_begin, call_door, call_side, call_undoor, call_unside, call_wide,
    call_room, call_back, call_seams, call_strips, call_clear, call_firsts,
    call_best, call_fewest, call_way_round, call_turn, call_widths, call_best_width,
    call_could, call_widest, call_hits, call_state,
)


def answer(works, call, numbers):
    """One call's answer, as a list. call is the call's own number, numbers are those behind it."""
    if works.plan is None and call != BEGIN:
        return [NOT_BEGUN]
    step = STEPS[call]
    return step(works, numbers)


def answers(calls):
    """All the calls' answers: of each how many numbers it has, then these."""
    works = Works()
    told = []
    place = 0
    while place < len(calls):
        call = calls[place]
        behind = place + 1 + ARGUMENT_COUNTS[call]
        numbers = answer(works, call, calls[place + 1:behind])
        told.append(len(numbers))
        told.extend(numbers)
        place = behind
    return told

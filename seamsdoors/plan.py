"""A room's plan, and what follows from it for a first strip."""

WIDEST_STRIP = 60
LONGEST_WALL = 200


class Plan:
    """How wide strips are, the room, its doors and sides.

    A plan is never changed once it is made: a change makes another one,
    so that the plans of before can be kept as they are and brought back.
    """

    def __init__(self, wide, across, along, doors, sides):
        self.wide = wide
        self.across = across
        self.along = along
        self.doors = doors
        self.sides = sides

    def with_wide(self, wide):
        return Plan(wide, self.across, self.along, self.doors, self.sides)

    def with_room(self, across, along):
        return Plan(self.wide, across, along, self.doors, self.sides)

    def with_doors(self, doors):
        return Plan(self.wide, self.across, self.along, doors, self.sides)

    def with_sides(self, sides):
        return Plan(self.wide, self.across, self.along, self.doors, sides)

    def turned(self):
        return Plan(self.wide, self.along, self.across, self.sides, self.doors)


def is_strip_width(number):
    return 1 <= number <= WIDEST_STRIP


def is_wall_length(number):
    return 1 <= number <= LONGEST_WALL


def is_first_width(plan, first):
    """A first strip may be wider than the room: the wall cuts it, and there is no seam."""
    return 1 <= first <= plan.wide


def lies_in_wall(low, high, wall):
    return low < high <= wall


def all_end_within(openings, wall):
    return all([opening[1] <= wall for opening in openings])


def seams_of(plan, first):
    return list(range(first, plan.across, plan.wide))


def last_width(plan, seams):
    if len(seams) == 0:
        return plan.across
    return plan.across - seams[-1]


def narrowest_width(plan, first, seams):
    return min(first, plan.across, last_width(plan, seams))


def carpet_needed(plan, strips):
    """A strip that is cut narrower is paid for whole."""
    return strips * plan.wide * plan.along


def is_hit(door, seams):
    """A seam just at a door's beginning or end does not lie within it."""
    return any([door[0] < seam < door[1] for seam in seams])


def hit_doors(plan, first):
    """The numbers of the doors in which some seam lies, rising."""
    seams = seams_of(plan, first)
    return [i for i, door in enumerate(plan.doors) if is_hit(door, seams)]


def is_clear(plan, first):
    return len(hit_doors(plan, first)) == 0

"""What the calls of one line are made on."""

CHANGES_KEPT = 10


class Works:
    """The plan as it is now (None: not begun), and those of before that can be brought back."""

    def __init__(self):
        self.plan = None
        self.earlier = []

    def begin_with(self, plan):
        self.plan = plan
        self.earlier = []

    def change_to(self, plan):
        kept = self.earlier + [self.plan]
        self.earlier = kept[-CHANGES_KEPT:]
        self.plan = plan

    def take_back(self):
        self.plan = self.earlier[-1]
        self.earlier = self.earlier[:-1]

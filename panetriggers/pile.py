"""What has come of one key, and what was told of it."""

NEW_ONES = 0
ALL_WITH_TAKING_BACK = 2

TAKEN_BACK = 0
TOLD = 1


class Pile:
    """One key's events and panes, and its trigger: None when that is over."""

    def __init__(self, key, trigger):
        self.key = key
        self.trigger = trigger
        self.new_count = 0
        self.new_sum = 0
        self.all_count = 0
        self.all_sum = 0
        self.panes = 0
        self.last_pane = []

    def take(self, value):
        """Take an event of the key."""
        self.new_count += 1
        self.new_sum += value
        self.all_count += 1
        self.all_sum += value

    def tell(self, mode, empties, when):
        """Tell a pane, as the trigger fired; give back the changes, number by number."""
        if self.new_count == 0 and empties == 0:
            return []
        changes = []
        if mode == ALL_WITH_TAKING_BACK and self.panes > 0:
            changes = [TAKEN_BACK] + self.last_pane
        self.last_pane = self.make_pane(mode, when)
        self.panes += 1
        self.new_count = 0
        self.new_sum = 0
        return changes + [TOLD] + self.last_pane

    def make_pane(self, mode, when):
        """Give back the next pane: its key, its number, when, how many events, their sum."""
        if mode == NEW_ONES:
            return [self.key, self.panes, when, self.new_count, self.new_sum]
        return [self.key, self.panes, when, self.all_count, self.all_sum]

    def show(self):
        """Give back the six numbers that the key is asked for."""
        is_over = 1 if self.trigger is None else 0
        return [is_over, self.new_count, self.new_sum, self.all_count, self.all_sum, self.panes]

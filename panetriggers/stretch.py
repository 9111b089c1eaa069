"""One stretch of time, and the calls on it."""

from panetriggers.pile import ALL_WITH_TAKING_BACK, NEW_ONES, Pile
from panetriggers.trigger import AGAIN, EVENT, FIRES, LEFT, MARK, NTH, TICK, hear, look_ahead, read_trigger

BEGIN_CALL = 0
EVENT_CALL = 1
TICKS_CALL = 2
MARK_CALL = 3
KEY_CALL = 4
KEYS_CALL = 5
SOON_CALL = 6

# By the call's number, how many numbers it has, itself among them; a begin's row
# comes on top.
SIZES = (4, 3, 2, 1, 2, 1, 3, 1)

EARLY = 0
BY_THE_MARK = 1
LATE = 2

LAST_KEY = 9
MOST_VALUE = 1000000
MOST_TICKS = 200
NUMBERS_OF_A_CHANGE = 6


def answers(calls):
    """Give back what each call answers, with how many numbers that is ahead of it."""
    stretch = Stretch()
    answered = []
    at = 0
    while at < len(calls):
        behind = at + size_of_call(calls, at)
        answer = answer_call(stretch, calls[at:behind])
        answered.append(len(answer))
        answered.extend(answer)
        at = behind
    return answered


def size_of_call(calls, at):
    """Give back how many numbers the call at a place has, with its row."""
    size = SIZES[calls[at]]
    if calls[at] == BEGIN_CALL:
        return size + calls[at + 3]
    return size


def answer_call(stretch, call):
    """Give back what one call answers, number by number."""
    if call[0] == BEGIN_CALL:
        return stretch.begin(call[1], call[2], call[4:])
    if call[0] == EVENT_CALL:
        return stretch.take_event(call[1], call[2])
    if call[0] == TICKS_CALL:
        return stretch.pass_ticks(call[1])
    if call[0] == MARK_CALL:
        return stretch.pass_mark()
    if call[0] == KEY_CALL:
        return stretch.show_key(call[1])
    if call[0] == KEYS_CALL:
        return stretch.show_keys()
    if call[0] == SOON_CALL:
        return stretch.show_soon(call[1], call[2])
    return stretch.show_counts()


def count_changes(changes):
    """Give back the changes with how many there are ahead of them."""
    return [len(changes) // NUMBERS_OF_A_CHANGE] + changes


class Stretch:
    """The stretch that a line's calls are about."""

    def __init__(self):
        self.start_anew(NEW_ONES, 0, read_trigger([AGAIN, NTH, 2]))

    def start_anew(self, mode, empties, trigger):
        """Start the stretch anew: nothing has come, the mark hasn't passed."""
        self.mode = mode
        self.empties = empties
        self.trigger = trigger
        self.mark_passed = False
        self.piles = {}
        self.taken = 0
        self.not_taken = 0

    def begin(self, mode, empties, numbers):
        """Answer begin."""
        if mode > ALL_WITH_TAKING_BACK:
            return [-1]
        if empties > 1:
            return [-2]
        trigger = read_trigger(numbers)
        if trigger is None:
            return [-3]
        self.start_anew(mode, empties, trigger)
        return [0]

    def take_event(self, key, value):
        """Answer event."""
        if key > LAST_KEY or value > MOST_VALUE:
            return [-1]
        is_first = key not in self.piles
        if is_first:
            self.piles[key] = Pile(key, self.trigger)
        pile = self.piles[key]
        if pile.trigger is None:
            self.not_taken += 1
            return [0] + count_changes([])
        self.taken += 1
        pile.take(value)
        changes = self.let_hear(pile, EVENT)
        if is_first and self.mark_passed:
            changes.extend(self.let_hear(pile, MARK))
        return [1] + count_changes(changes)

    def pass_ticks(self, ticks):
        """Answer ticks."""
        if ticks > MOST_TICKS:
            return [-1]
        changes = []
        for tick in range(ticks):
            changes.extend(self.let_all_hear(TICK))
        return count_changes(changes)

    def pass_mark(self):
        """Answer mark."""
        if self.mark_passed:
            return [-4]
        self.mark_passed = True
        return count_changes(self.let_all_hear(MARK))

    def show_key(self, key):
        """Answer key."""
        if key not in self.piles:
            return [-5]
        return self.piles[key].show()

    def show_keys(self):
        """Answer keys."""
        return [len(self.piles)] + sorted(self.piles)

    def show_soon(self, key, sort):
        """Answer soon; its sorts bear the numbers of an event and of a tick."""
        if key not in self.piles:
            return [-5]
        if sort > TICK:
            return [-1]
        trigger = self.piles[key].trigger
        if trigger is None:
            return [-6]
        return [look_ahead(trigger, sort)]

    def show_counts(self):
        """Answer counts."""
        return [self.taken, self.not_taken, 1 if self.mark_passed else 0]

    def let_all_hear(self, heard):
        """Let every key hear, the lesser first; give back the changes."""
        changes = []
        for key in sorted(self.piles):
            changes.extend(self.let_hear(self.piles[key], heard))
        return changes

    def let_hear(self, pile, heard):
        """Let one key's trigger hear, if it isn't over; give back the changes."""
        if pile.trigger is None:
            return []
        outcome = hear(pile.trigger, heard)
        pile.trigger = outcome[LEFT]
        if not outcome[FIRES]:
            return []
        return pile.tell(self.mode, self.empties, self.when_heard(heard))

    def when_heard(self, heard):
        """Say when a pane is told that comes of what is heard."""
        if heard == MARK:
            return BY_THE_MARK
        if self.mark_passed:
            return LATE
        return EARLY

"""What a yard consists of."""

NOT_THERE = -2

NO_SECTION = -1
NO_ROUTE = -1

NOWHERE = 2

# A route's state is one number, so that a route can't be set and count down at once:
# one of these two, or how many seconds are left while it's being given back.
SET = -1
IDLE = 0


class Section:
    def __init__(self):
        self.occupied = 0
        self.locked_for = NO_ROUTE


class Points:
    def __init__(self, section):
        self.section = section
        self.told = 0
        self.found = NOWHERE


class Route:
    # lies holds, by the points' number, where they must lie.
    def __init__(self, signal, own, sections, lies):
        self.signal = signal
        self.own = own
        self.sections = sections
        self.lies = lies
        self.state = IDLE
        self.train_in = False
        # Of its own sections, from the first on: how many count, and how many are free again.
        self.counted = 0
        self.freed = 0


class Yard:
    # All that's known of a signal is the section before it, so signals holds just these.
    def __init__(self):
        self.sections = []
        self.points = []
        self.signals = []
        self.routes = []


def there_is(things, number):
    return 0 <= number < len(things)

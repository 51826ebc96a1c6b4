"""The document said again, in another way than the program's: what the yard's locks, counts and trains are
isn't kept, but worked out anew from what was reported since each route was set."""


class Route:
    def __init__(self, signal, own, sections, pairs):
        self.signal, self.own, self.sections, self.pairs = signal, own, sections, pairs
        # What was occupied at each track since it was set; None where it's idle.
        self.seen = None
        self.seconds = None

    def gone_in(self):
        return any(self.sections[0] in occupied for occupied in self.seen or ())

    def counts_from(self, place):
        """The first track at which an own section counts, None if it doesn't yet."""
        if place >= self.own:
            return None
        begin = self.counts_from(place - 1) if place else 0
        if begin is None:
            return None
        times = [time for time in range(begin, len(self.seen)) if self.sections[place] in self.seen[time]]
        return times[0] if times else None

    def free_again(self):
        """How many own sections are, from the first on."""
        if self.seen is None:
            return 0
        begins = [self.counts_from(place) for place in range(self.own)]
        free = 0
        for time, occupied in enumerate(self.seen):
            counts = [begin is not None and begin <= time for begin in begins] + [True]
            while free < self.own and counts[free] and counts[free + 1] and self.sections[free] not in occupied:
                free += 1
        return free

    def locked(self):
        return self.sections[self.free_again():] if self.seen is not None else []


class Model:
    def __init__(self):
        self.sections, self.occupied = 0, frozenset()
        self.points, self.signals, self.routes = [], [], []

    def locks(self):
        return {section: number for number, route in enumerate(self.routes) for section in route.locked()}

    def held(self, which):
        section = self.points[which][0]
        for route in self.routes:
            named = route.seen is not None and which in [pair[0] for pair in route.pairs]
            if named and (section in route.locked() or section not in route.sections):
                return True
        return False

    def section(self):
        if self.sections == 64:
            return [-8]
        self.sections += 1
        return [self.sections - 1]

    def add_points(self, section):
        if section not in range(self.sections):
            return [-2]
        if len(self.points) == 32:
            return [-8]
        self.points.append([section, 0, 2])
        return [len(self.points) - 1]

    def add_signal(self, before):
        if before not in range(-1, self.sections):
            return [-2]
        if len(self.signals) == 64:
            return [-8]
        self.signals.append(before)
        return [len(self.signals) - 1]

    def add_route(self, signal, own, n, m, count, *given):
        if not (signal in range(len(self.signals)) and n in range(1, 17) and own in range(1, n + 1) and m in range(17)):
            return [-2]
        sections, pairs = given[:n], list(zip(given[n::2], given[n + 1::2]))
        which = [pair[0] for pair in pairs]
        twice = len(set(sections)) < n or len(set(which)) < m
        there = set(sections) <= set(range(self.sections)) and set(which) <= set(range(len(self.points)))
        if twice or not there or not {where for _, where in pairs} <= {0, 1}:
            return [-2]
        if len(self.routes) == 256:
            return [-8]
        self.routes.append(Route(signal, own, sections, pairs))
        return [len(self.routes) - 1]

    def may(self, number):
        if number not in range(len(self.routes)):
            return [-2]
        route = self.routes[number]
        if any(other.signal == route.signal and other.seen is not None for other in self.routes):
            return [-3]
        taken = self.occupied | set(self.locks())
        if taken & set(route.sections):
            return [-4]
        for which, where in route.pairs:
            if self.points[which][1] != where and (self.held(which) or self.points[which][0] in taken):
                return [-5]
        return [0]

    def set(self, number):
        answer = self.may(number)
        if answer == [0]:
            self.routes[number].seen = []
            for which, where in self.routes[number].pairs:
                self.points[which][1] = where
        return answer

    def cancel(self, number):
        if number not in range(len(self.routes)):
            return [-2]
        route = self.routes[number]
        if route.seen is None or route.seconds is not None or route.gone_in():
            return [-3]
        if self.signals[route.signal] in self.occupied:
            route.seconds = 120
            return [120]
        route.seen = None
        return [0]

    def track(self, section, occupied):
        if section not in range(self.sections) or occupied not in (0, 1):
            return [-2]
        self.occupied = self.occupied | {section} if occupied else self.occupied - {section}
        for route in self.routes:
            if route.seen is not None:
                route.seen.append(self.occupied)
                route.seconds = None if route.gone_in() else route.seconds
                route.seen = None if route.free_again() == route.own else route.seen
        return [0]

    def found(self, which, where):
        if which not in range(len(self.points)) or where not in (0, 1, 2):
            return [-2]
        self.points[which][2] = where
        return [0]

    def tick(self, seconds):
        if seconds not in range(1, 3601):
            return [-2]
        for route in self.routes:
            if route.seconds is not None:
                route.seconds -= seconds
                if route.seconds <= 0:
                    route.seconds = route.seen = None
        return [0]

    def aspect(self, signal):
        if signal not in range(len(self.signals)):
            return [-2]
        for route in self.routes:
            if route.signal != signal or route.seen is None or route.seconds is not None or route.gone_in():
                continue
            lie = all(self.points[which][1:] == [where, where] for which, where in route.pairs)
            if lie and not self.occupied & set(route.sections):
                return [1]
        return [0]

    def tell_section(self, section):
        if section not in range(self.sections):
            return [-2]
        return [0, int(section in self.occupied), self.locks().get(section, -1)]

    def tell_points(self, which):
        if which not in range(len(self.points)):
            return [-2]
        return [0] + self.points[which][1:] + [int(self.held(which))]

    def tell_route(self, number):
        if number not in range(len(self.routes)):
            return [-2]
        route = self.routes[number]
        if route.seen is None:
            return [0, 0, 0, 0]
        return [0, route.seconds or -1, int(route.gone_in()), route.free_again()]

    def answer(self, call):
        asked = [
            self.section, self.add_points, self.add_signal, self.add_route, self.may, self.set, self.cancel,
            self.track, self.found, self.tick, self.aspect, self.tell_section, self.tell_points, self.tell_route,
        ]
        return asked[call[0] - 1](*call[1:])


def model_answers(calls):
    model = Model()
    return [model.answer(call) for call in calls]

"""What frames come onto the stack in runs, and runs with as few events as possible."""

from heapq import heappop, heappush

# Far longer than any run that is told; counted on, the ends of some frames would have hundreds of digits.
FAR = 1000000000000


class Kind:
    """All frames of a function that are handed the same: all that can become of them is the same.

    `reached` has the events at their steps, by the paths of these, and
    `callers` the events that bring a frame of this kind.
    `length` counts the events from the first to the one with which a frame has ended,
    itself or as the frame that took its place, None if none can end; `last` is the path of
    the tail call by which it ends so, or else of the step behind which its own end comes.
    `arrived` counts the events of a run ahead of the first one, and `came` is the event that brought the frame.
    """

    def __init__(self, name, handed):
        self.name = name
        self.handed = handed
        self.reached = {}
        self.callers = []
        self.length = None
        self.last = None
        self.arrived = None
        self.came = None


class Event:
    """An event at a step of frames of a kind, reached on a way with as few events as possible.

    `origin` is the path of the step of the event ahead of it in the same frame, empty if there is none;
    `length` counts the events from the frame's first to this one, and
    `callee` is the kind of the frame that it brings, if it does.
    """

    def __init__(self, kind, origin, path, step, length, standing):
        word, target = step
        self.kind = kind
        self.origin = origin
        self.path = path
        self.word = word
        self.target = target
        self.length = length
        self.standing = standing
        self.callee = None

    def place(self):
        """The place of the step."""
        return (self.kind.name, self.path)

    def told(self):
        """The event as it stands in runs."""
        return (self.word, self.place())

    def total(self):
        """The number of the events of a run, as short as can be, that ends with this one."""
        return self.kind.arrived + self.length


class Search:
    """All kinds of frames that runs from a frame of some kind bring, and the shortest ways to what they do.

    In the queue are kinds with a path that their frames get behind, or by which they end,
    sorted by the events that this takes; what is taken out first is known for good.
    A kind that comes late starts at 0 again, and so overtakes all that could depend on it.
    """

    def __init__(self, flow, name, handed):
        self.flow = flow
        self.kinds = {}
        self.queue = []
        self.pushed = 0
        self.start = self.kind_of(name, handed)
        while self.queue:
            self.settle()
        self.arrive()

    def kind_of(self, name, handed):
        """The kind of the frames of a function that are handed something."""
        key = (name, handed)
        if key not in self.kinds:
            self.kinds[key] = Kind(name, handed)
            self.push(0, self.kinds[key], (), False)
        return self.kinds[key]

    def push(self, length, kind, path, ends):
        """Note that frames of a kind get behind the step at a path, or end by it, with so many events."""
        heappush(self.queue, (min(length, FAR), self.pushed, kind, path, ends))
        self.pushed += 1

    def settle(self):
        """Take out what takes the fewest events, and note what follows from it."""
        length, _, kind, path, ends = heappop(self.queue)
        if not ends:
            self.go_on(kind, path, length)
        elif kind.length is None:
            kind.length = length
            kind.last = path
            for event in kind.callers:
                self.come_back(event)

    def go_on(self, kind, path, length):
        """Note what can come next for a frame of a kind behind the step at a path."""
        moves = self.flow.moves(kind.name, path)
        for further in moves.steps:
            # Ways are taken out in the order of their lengths, so the first one to a step is a shortest one.
            if further not in kind.reached:
                step = moves.steps[further]
                standing = self.flow.standing_at(kind.name, further, kind.handed)
                self.reach(Event(kind, path, further, step, length + 1, standing))
        if moves.ends:
            self.push(length + 1, kind, path, True)

    def reach(self, event):
        """Note an event, and what follows from it."""
        kind = event.kind
        kind.reached[event.path] = event
        if event.word == "check":
            if self.flow.passes(event.standing, event.target):
                self.push(event.length, kind, event.path, False)
            else:
                event.word = "fail"
            return
        handed = self.flow.handed_on(event.word, kind.handed, event.standing)
        event.callee = self.kind_of(event.target, handed)
        event.callee.callers.append(event)
        if event.callee.length is not None:
            self.come_back(event)

    def come_back(self, event):
        """Note that the frame that an event has brought can end."""
        self.push(event.length + event.callee.length, event.kind, event.path, event.word == "tail")

    def arrive(self):
        """Find for each kind the way with the fewest events on which a frame of it comes onto the stack."""
        queue = [(0, 0, self.start, None)]
        pushed = 0
        while queue:
            length, _, kind, came = heappop(queue)
            if kind.arrived is not None:
                continue
            kind.arrived = length
            kind.came = came
            for event in kind.reached.values():
                if event.callee is not None:
                    pushed += 1
                    heappush(queue, (length + event.length, pushed, event.callee, event))

    def all_events(self):
        """All events at steps that runs have, each once for each kind of frames."""
        return [event for kind in self.kinds.values() for event in kind.reached.values()]

    def has(self, wanted):
        """Whether runs have an event that is wanted; `wanted` is a function that tells this of an event.

        A run up to this event is not spelled out: it may be far too long for that.
        """
        return any([wanted(event) for event in self.all_events()])

    def nearest_event(self, wanted):
        """The event wanted at which runs arrive with the fewest events, or None if there is none."""
        best = None
        for event in self.all_events():
            if wanted(event) and (best is None or event.total() < best.total()):
                best = event
        return best

    def nearest(self, wanted):
        """A run with as few events as possible whose last one is wanted, or None if there is none."""
        event = self.nearest_event(wanted)
        return None if event is None else run_up_to(event)

    def whole_run(self):
        """A run with as few events as possible behind which the first frame has ended, or None."""
        return None if self.start.length is None else spread_out(whole_way(self.start))


def search_runs(flow):
    """The search through all runs of a program."""
    return Search(flow, flow.first, flow.first_handed())


def way_behind(kind, path):
    """What frames of a kind do until they are behind the step at a path, from the last to the first.

    These are tuples of an event as it stands in runs and the kind of a frame that has to end next, or None.
    """
    way = []
    while path:
        event = kind.reached[path]
        way.append((event.told(), event.callee))
        path = event.origin
    return way


def whole_way(kind):
    """The same for what frames of a kind do until they have ended."""
    way = way_behind(kind, kind.last)
    if kind.last and kind.reached[kind.last].word == "tail":
        return way
    return [(("end", kind.name), None)] + way


def spread_out(way):
    """The list of the events of a way as above, from the first to the last, with those of the frames that end."""
    run = []
    waiting = list(way)
    while waiting:
        told, callee = waiting.pop()
        run.append(told)
        if callee is not None:
            waiting.extend(whole_way(callee))
    return run


def run_up_to(event):
    """A run with as few events as possible that ends with an event."""
    way = []
    while event is not None:
        way.append((event.told(), None))
        way.extend(way_behind(event.kind, event.origin))
        event = event.kind.came
    return spread_out(way)

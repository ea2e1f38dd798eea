"""Runs: the events that can come one after another, and the stack behind them."""

from callersrights.bodies import is_spot, is_tuple_of
from callersrights.errors import InvalidRun
from callersrights.flow import Flow
from callersrights.programs import need_program

STEP_EVENTS = ("call", "tail", "check", "fail")
CHECK_EVENTS = ("check", "fail")


class Frame:
    """A frame on the stack.

    `path` is that of the step of its last event, empty if there was none,
    and `marked` tells whether this step stands in a marked block.
    """

    def __init__(self, name, handed):
        self.name = name
        self.handed = handed
        self.path = ()
        self.marked = False


class Stack:
    """The frames of a program in the midst of a run, from the oldest to the newest."""

    def __init__(self, program):
        self.flow = Flow(program)
        self.frames = [Frame(self.flow.first, self.flow.first_handed())]
        self.failed = False

    def is_over(self):
        """Whether nothing can come any more."""
        return self.failed or len(self.frames) == 0

    def moves(self):
        """What can come next for the newest frame."""
        frame = self.frames[-1]
        return self.flow.moves(frame.name, frame.path)

    def standing_at(self, path):
        """The standing at a step of the newest frame."""
        frame = self.frames[-1]
        return self.flow.standing_at(frame.name, path, frame.handed)

    def event_at(self, path, step):
        """The event at one of the steps that can come next."""
        word, target = step
        if word == "check" and not self.flow.passes(self.standing_at(path), target):
            word = "fail"
        return (word, (self.frames[-1].name, path))

    def events(self):
        """The list, in order, of all events that can come next."""
        if self.is_over():
            return []
        moves = self.moves()
        found = [self.event_at(path, moves.steps[path]) for path in moves.steps]
        if moves.ends:
            found.append(("end", self.frames[-1].name))
        return sorted(found)

    def take(self, event):
        """Go on by what has the form of an event, and tell whether it could come."""
        if self.is_over():
            return False
        word, spot = event
        if word == "end":
            return self.take_end(spot)
        path = spot[1]
        steps = self.moves().steps
        if path not in steps or self.event_at(path, steps[path]) != event:
            return False
        self.take_step(word, path, steps[path][1])
        return True

    def take_end(self, name):
        """Let the newest frame end, and tell whether it could."""
        if name != self.frames[-1].name or not self.moves().ends:
            return False
        self.frames.pop()
        return True

    def take_step(self, word, path, target):
        """Go on by the event with a word at a step with the name of a function or a right."""
        frame = self.frames[-1]
        frame.path = path
        frame.marked = self.flow.is_marked(frame.name, path)
        handed = self.flow.handed_on(word, frame.handed, self.standing_at(path))
        if word == "tail":
            self.frames[-1] = Frame(target, handed)
        if word == "call":
            self.frames.append(Frame(target, handed))
        if word == "fail":
            self.failed = True

    def names(self):
        """The names of the functions of the frames."""
        return [frame.name for frame in self.frames]

    def walk(self):
        """The names of the functions of the frames that the check met which came last."""
        met = []
        for frame in reversed(self.frames):
            met.append(frame.name)
            if frame.marked:
                break
        return met


def is_event_form(value):
    """Whether a value has the form of an event, whether or not it can come anywhere."""
    if not is_tuple_of(value, 2):
        return False
    if value[0] == "end":
        return isinstance(value[1], str)
    return value[0] in STEP_EVENTS and is_spot(value[1])


def follow(program, value):
    """The stack behind a run, or None for a value that is no run."""
    if not isinstance(value, list):
        return None
    stack = Stack(program)
    for event in value:
        if not is_event_form(event) or not stack.take(event):
            return None
    return stack


def stack_behind(program, run):
    """The stack behind a run, for arguments that are not checked yet."""
    need_program(program)
    stack = follow(program, run)
    if stack is None:
        raise InvalidRun(run)
    return stack


def is_run(program, value):
    """Whether a value is a run of a program."""
    need_program(program)
    return follow(program, value) is not None


def next_events(program, run):
    """The list, in order, of all events that can come next behind a run."""
    return stack_behind(program, run).events()


def stack_of(program, run):
    """The names of the functions of the frames behind a run, from the oldest to the newest."""
    return stack_behind(program, run).names()


def walk_of(program, run):
    """The names of the functions of the frames that the last event of a run met, from the newest on."""
    stack = stack_behind(program, run)
    if len(run) == 0 or run[-1][0] not in CHECK_EVENTS:
        raise InvalidRun(run)
    return stack.walk()

"""What frames of a program can do next, and what they find when they check."""

from callersrights.bodies import inner_bodies, inner_body, is_in_mark, is_marking

EVENT_WORDS = ("call", "tail", "check")


class Moves:
    """What can come next for a frame, with no event between: some steps, or the end of its body.

    `steps` has them by their paths, `ends` tells whether the end of the body can come next.
    """

    def __init__(self, body, path):
        """What comes behind the step at a path, or, for the empty path, first in the body."""
        self.steps = {}
        self.ends = self.leave(body, path, ()) if path else self.enter(body, 0, ())

    def enter(self, body, start, base):
        """Note what comes first from a step of a body on, and tell whether the end of this body can."""
        for at in range(start, len(body)):
            if not self.enter_step(body[at], base + (at,)):
                return False
        return True

    def enter_step(self, step, path):
        """Note what comes first in a step, and tell whether it can be passed without an event."""
        word = step[0]
        if word in EVENT_WORDS:
            self.steps[path] = step
            return False
        # All bodies are entered ahead of the question whether one can be passed.
        passed = [self.enter(inner, 0, path + turn) for turn, inner in inner_bodies(step)]
        return word == "back" or word == "loop" or any(passed)

    def leave(self, body, path, base):
        """Note what comes first behind the step at a path, and tell whether the end of this body can."""
        at = path[0]
        rest = path[1:]
        if rest and not self.leave_step(body[at], rest, base + (at,)):
            return False
        return self.enter(body, at + 1, base)

    def leave_step(self, step, rest, here):
        """The same for the rest of a path within a step, and whether the end of this step can come."""
        turn, inner = inner_body(step, rest)
        ends = self.leave(inner, rest[len(turn):], here + turn)
        if ends and step[0] == "loop":
            self.enter(inner, 0, here + turn)
        return ends


class Flow:
    """The moves of a program's frames, each worked out once, and their standings.

    What a frame is handed is here the rights that the frames below it leave it.
    Where other things matter of these frames, a class below this one hands them on in the same way.
    """

    def __init__(self, program):
        self.all_rights = tuple(program.rights())
        self.owned = {}
        for owner, rights in program.owners():
            self.owned[owner] = tuple([right for right in self.all_rights if right in rights])
        self.bodies = {}
        self.owner_of = {}
        functions = program.functions()
        for name, owner, body in functions:
            self.bodies[name] = body
            self.owner_of[name] = owner
        self.first = functions[0][0]
        self.known = {}
        self.marks = {}

    def moves(self, name, path):
        """What can come behind the step at a path of a function, or, for the empty path, first in it."""
        spot = (name, path)
        if spot not in self.known:
            self.known[spot] = Moves(self.bodies[name], path)
        return self.known[spot]

    def is_marked(self, name, path):
        """Whether the step at a path of a function stands in a marked block."""
        spot = (name, path)
        if spot not in self.marks:
            self.marks[spot] = is_in_mark(self.bodies[name], path)
        return self.marks[spot]

    def first_handed(self):
        """What the first frame is handed."""
        return self.all_rights

    def rights_at(self, name, path, handed):
        """The rights for which a check passes at a step of a frame of a function that is handed rights.

        What a frame is handed is the standing at the call that brought it,
        so it says all that the walk would find below this frame.
        """
        own = self.owned[self.owner_of[name]]
        if self.is_marked(name, path):
            return own
        return tuple([right for right in own if right in handed])

    def standing_at(self, name, path, handed):
        """What a step of a frame of a function that is handed something finds, and a call there hands on."""
        return self.rights_at(name, path, handed)

    def handed_on(self, word, handed, standing):
        """What a call or, by its word, a tail call with a standing hands on, in a frame that was handed something."""
        return handed if word == "tail" else standing

    def passes(self, standing, right):
        """Whether a check of a right passes with a standing."""
        return right in standing

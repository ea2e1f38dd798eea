"""What frames of a program can do next, and what they find when they check."""

from callersrights.bodies import inner_bodies, inner_body, is_marking

EVENT_WORDS = ("call", "tail", "check")


class Moves:
    """What can come next for a frame, with no event between: some steps, or the end of its body.

    `steps` has them by their paths, each as its word, the name or right in it,
    and whether it stands in a marked block.
    `ends` tells whether the end of the body can come next.
    """

    def __init__(self, body, path):
        """What comes behind the step at a path, or, for the empty path, first in the body."""
        self.steps = {}
        self.ends = self.leave(body, path, (), False) if path else self.enter(body, 0, (), False)

    def enter(self, body, start, base, marked):
        """Note what comes first from a step of a body on, and tell whether the end of this body can."""
        for at in range(start, len(body)):
            if not self.enter_step(body[at], base + (at,), marked):
                return False
        return True

    def enter_step(self, step, path, marked):
        """Note what comes first in a step, and tell whether it can be passed without an event."""
        word = step[0]
        if word in EVENT_WORDS:
            self.steps[path] = (word, step[1], marked)
            return False
        inside = marked or is_marking(step)
        # All bodies are entered ahead of the question whether one can be passed.
        passed = [self.enter(inner, 0, path + turn, inside) for turn, inner in inner_bodies(step)]
        return word == "back" or word == "loop" or any(passed)

    def leave(self, body, path, base, marked):
        """Note what comes first behind the step at a path, and tell whether the end of this body can."""
        at = path[0]
        rest = path[1:]
        if rest and not self.leave_step(body[at], rest, base + (at,), marked):
            return False
        return self.enter(body, at + 1, base, marked)

    def leave_step(self, step, rest, here, marked):
        """The same for the rest of a path within a step, and whether the end of this step can come."""
        turn, inner = inner_body(step, rest)
        inside = marked or is_marking(step)
        ends = self.leave(inner, rest[len(turn):], here + turn, inside)
        if ends and step[0] == "loop":
            self.enter(inner, 0, here + turn, inside)
        return ends


class Flow:
    """The moves of a program's frames, each worked out once, and their standings."""

    def __init__(self, program):
        self.all_rights = program.rights()
        owned = {}
        for owner, rights in program.owners():
            owned[owner] = [right for right in self.all_rights if right in rights]
        self.bodies = {}
        self.own_rights = {}
        functions = program.functions()
        for name, owner, body in functions:
            self.bodies[name] = body
            self.own_rights[name] = owned[owner]
        self.first = functions[0][0]
        self.known = {}

    def moves(self, name, path):
        """What can come behind the step at a path of a function, or, for the empty path, first in it."""
        spot = (name, path)
        if spot not in self.known:
            self.known[spot] = Moves(self.bodies[name], path)
        return self.known[spot]

    def standing(self, name, handed, marked):
        """The rights for which a check passes in a frame of a function that is handed rights.

        What a frame is handed is the standing at the call that brought it,
        so it says all that the walk would find below this frame.
        """
        own = self.own_rights[name]
        if marked:
            return list(own)
        return [right for right in own if right in handed]

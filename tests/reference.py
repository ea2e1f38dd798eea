"""Runs by brute force, made from the document's words and nothing of the package but programs.

A stack is a tuple of frames, a frame is its function's name and what it is busy with:
a tuple of pairs (what the paths of a body's steps begin with, number of the step that is next).
All stacks that a run can leave behind are kept, one for each way to take silent steps.
"""


class Reference:
    def __init__(self, program):
        self.bodies = {name: body for name, _, body in program.functions()}
        self.owner_of = {name: owner for name, owner, _ in program.functions()}
        self.rights_of = dict(program.owners())
        self.first = program.functions()[0][0]

    def body_at(self, name, prefix):
        """The body whose steps have the paths prefix + (number,)."""
        body = self.bodies[name]
        rest = list(prefix)
        while rest:
            step = body[rest.pop(0)]
            if step[0] == "either":
                body = step[1 + rest.pop(0)]
            else:
                body = step[-1]
        return body

    def marked_at(self, name, path):
        """Whether the step at a path stands in a marked block."""
        body = self.bodies[name]
        rest = list(path)
        while True:
            step = body[rest.pop(0)]
            if not rest:
                return False
            if step[0] == "block" and step[1]:
                return True
            body = step[1 + rest.pop(0)] if step[0] == "either" else step[-1]

    def silent(self, frame):
        """All frames that a frame can become by one silent step."""
        name, work = frame
        prefix, number = work[-1]
        below = work[:-1]
        body = self.body_at(name, prefix)
        if number == len(body):
            return [(name, below)] if below else []
        word = body[number][0]
        path = prefix + (number,)
        passed = below + ((prefix, number + 1),)
        if word == "back":
            return [(name, passed)]
        if word == "loop":
            # The frame comes back to the loop itself, which it may take again or pass.
            return [(name, passed), (name, work + ((path, 0),))]
        if word == "block":
            return [(name, passed + ((path, 0),))]
        if word == "either":
            return [(name, passed + ((path + (side,), 0),)) for side in (0, 1)]
        return []

    def settled(self, frame):
        """All frames that a frame can become by silent steps, itself too."""
        found = {frame}
        waiting = [frame]
        while waiting:
            for further in self.silent(waiting.pop()):
                if further not in found:
                    found.add(further)
                    waiting.append(further)
        return found

    def walk(self, stack, path):
        """The walk of a check at a path of the newest frame."""
        name, _ = stack[-1]
        met = [name]
        marked = self.marked_at(name, path)
        older = list(stack[:-1])
        while older and not marked:
            name, work = older.pop()
            prefix, number = work[-1]
            met.append(name)
            # It goes on behind its call, so the call is the step ahead of the next one.
            marked = self.marked_at(name, prefix + (number - 1,))
        return met

    def events_from(self, stack):
        """Pairs of an event and the stack behind it (None behind a fail)."""
        found = []
        for name, work in self.settled(stack[-1]):
            prefix, number = work[-1]
            body = self.body_at(name, prefix)
            if number == len(body):
                if len(work) == 1:
                    found.append((("end", name), stack[:-1]))
                continue
            step = body[number]
            path = prefix + (number,)
            on = (name, work[:-1] + ((prefix, number + 1),))
            start = (step[-1], (((), 0),))
            if step[0] == "call":
                found.append((("call", (name, path)), stack[:-1] + (on, start)))
            if step[0] == "tail":
                found.append((("tail", (name, path)), stack[:-1] + (start,)))
            if step[0] == "check":
                stopped = stack[:-1] + ((name, work),)
                met = self.walk(stopped, path)
                if all(step[1] in self.rights_of[self.owner_of[other]] for other in met):
                    found.append((("check", (name, path)), stack[:-1] + (on,)))
                else:
                    found.append((("fail", (name, path)), None))
        return found

    def start(self):
        return {((self.first, (((), 0),)),)}

    def go(self, stacks, event):
        """All stacks that an event can leave behind, of some that it may go on from; None stands for a fail."""
        found = set()
        for stack in stacks:
            if stack:
                found.update(behind for told, behind in self.events_from(stack) if told == event)
        return found

    def next_events(self, stacks):
        return sorted({event for stack in stacks if stack for event, _ in self.events_from(stack)})

    def names(self, stacks):
        (names,) = {tuple(name for name, _ in stack) for stack in stacks}
        return list(names)

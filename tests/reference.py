"""Runs by brute force, made from the document's words and nothing of the package but programs.

A stack is a tuple of frames, a frame is its function's name and what it is busy with:
a tuple of pairs (what the paths of a body's steps begin with, number of the step that is next).
All stacks that a run can leave behind are kept, one for each way to take silent steps.
"""


class Reference:
    def __init__(self, program):
        self.bodies = {name: body for name, _, body in program.functions()}
        self.owner_of = {name: owner for name, owner, _ in program.functions()}
        self.rights_of = dict(program.owners())
        self.first = program.functions()[0][0]
        self.rights = program.rights()

    def body_at(self, name, prefix):
        """The body whose steps have the paths prefix + (number,)."""
        body = self.bodies[name]
        rest = list(prefix)
        while rest:
            step = body[rest.pop(0)]
            if step[0] == "either":
                body = step[1 + rest.pop(0)]
            else:
                body = step[-1]
        return body

    def marked_at(self, name, path):
        """Whether the step at a path stands in a marked block."""
        body = self.bodies[name]
        rest = list(path)
        while True:
            step = body[rest.pop(0)]
            if not rest:
                return False
            if step[0] == "block" and step[1]:
                return True
            body = step[1 + rest.pop(0)] if step[0] == "either" else step[-1]

    def silent(self, frame):
        """All frames that a frame can become by one silent step."""
        name, work = frame
        prefix, number = work[-1]
        below = work[:-1]
        body = self.body_at(name, prefix)
        if number == len(body):
            return [(name, below)] if below else []
        word = body[number][0]
        path = prefix + (number,)
        passed = below + ((prefix, number + 1),)
        if word == "back":
            return [(name, passed)]
        if word == "loop":
            # The frame comes back to the loop itself, which it may take again or pass.
            return [(name, passed), (name, work + ((path, 0),))]
        if word == "block":
            return [(name, passed + ((path, 0),))]
        if word == "either":
            return [(name, passed + ((path + (side,), 0),)) for side in (0, 1)]
        return []

    def settled(self, frame):
        """All frames that a frame can become by silent steps, itself too."""
        found = {frame}
        waiting = [frame]
        while waiting:
            for further in self.silent(waiting.pop()):
                if further not in found:
                    found.add(further)
                    waiting.append(further)
        return found

    def walk(self, stack, path):
        """The walk of a check at a path of the newest frame."""
        name, _ = stack[-1]
        met = [name]
        marked = self.marked_at(name, path)
        older = list(stack[:-1])
        while older and not marked:
            name, work = older.pop()
            prefix, number = work[-1]
            met.append(name)
            # It goes on behind its call, so the call is the step ahead of the next one.
            marked = self.marked_at(name, prefix + (number - 1,))
        return met

    def events_from(self, stack):
        """Pairs of an event and the stack behind it (None behind a fail)."""
        found = []
        for name, work in self.settled(stack[-1]):
            prefix, number = work[-1]
            body = self.body_at(name, prefix)
            if number == len(body):
                if len(work) == 1:
                    found.append((("end", name), stack[:-1]))
                continue
            step = body[number]
            path = prefix + (number,)
            on = (name, work[:-1] + ((prefix, number + 1),))
            start = (step[-1], (((), 0),))
            if step[0] == "call":
                found.append((("call", (name, path)), stack[:-1] + (on, start)))
            if step[0] == "tail":
                found.append((("tail", (name, path)), stack[:-1] + (start,)))
            if step[0] == "check":
                stopped = stack[:-1] + ((name, work),)
                met = self.walk(stopped, path)
                if all(step[1] in self.rights_of[self.owner_of[other]] for other in met):
                    found.append((("check", (name, path)), stack[:-1] + (on,)))
                else:
                    found.append((("fail", (name, path)), None))
        return found

    def start(self):
        return {((self.first, (((), 0),)),)}

    def go(self, stacks, event):
        """All stacks that an event can leave behind, of some that it may go on from; None stands for a fail."""
        found = set()
        for stack in stacks:
            if stack:
                found.update(behind for told, behind in self.events_from(stack) if told == event)
        return found

    def next_events(self, stacks):
        return sorted({event for stack in stacks if stack for event, _ in self.events_from(stack)})

    def standing(self, stack, path):
        """The standing at a path of the newest frame."""
        owners = [self.owner_of[name] for name in self.walk(stack, path)]
        return [right for right in self.rights if all(right in self.rights_of[owner] for owner in owners)]

    def stack_ahead(self, run):
        """The stack ahead of the last event of a run."""
        stacks = self.start()
        for event in run[:-1]:
            stacks = self.go(stacks, event)
        (stack,) = {stack for stack in stacks if run[-1] in [told for told, _ in self.events_from(stack)]}
        return stack

    def names(self, stacks):
        (names,) = {tuple(name for name, _ in stack) for stack in stacks}
        return list(names)


class Explored:
    """What the runs of a program come to, one event after another, for all runs of few events.

    `found` has tuples (run, stack ahead of its last event, shadow ahead of it), shorter runs ahead of longer ones;
    of runs that leave the same stack and shadow behind only the first one goes on.
    A shadow is what a test keeps beside the stack; `follow` tells what an event makes of it.
    All that runs of up to `depth` events come to is there.
    """

    def __init__(self, program, depth, most=1500, shadow=None, follow=None):
        self.reference = Reference(program)
        self.follow = follow
        self.found = []
        self.known = set()
        self.depth = 0
        level = [([], stack, shadow) for stack in self.reference.start()]
        while level and self.depth < depth and len(self.known) < most:
            level = [state for before in level for state in self.behind(*before)]
            self.depth += 1
        if not level:
            self.depth = 10 ** 9

    def behind(self, run, stack, shadow):
        further = []
        for event, behind in self.reference.events_from(stack):
            self.found.append((run + [event], stack, shadow))
            on = self.follow(shadow, event) if self.follow else None
            if behind and (behind, on) not in self.known:
                self.known.add((behind, on))
                further.append((run + [event], behind, on))
        return further

    def shortest(self, wanted):
        """The number of events of a shortest run found that is wanted, or None."""
        for run, stack, shadow in self.found:
            if wanted(run, stack, shadow):
                return len(run)
        return None

    def ends(self):
        """The number of events of a shortest run found behind which the stack is empty, or None."""
        return self.shortest(lambda run, stack, shadow: len(stack) == 1 and run[-1][0] == "end")


def first_difference(program, other, depth, most=1500):
    """The fewest events of a run of just one of two programs, None if there is none, and "far" if it is not found."""
    one, two = Reference(program), Reference(other)
    (first,), (second,) = one.start(), two.start()
    level, known = [(first, second)], set()
    for events in range(1, depth + 1):
        further = []
        for left, right in level:
            here, there = dict(one.events_from(left)), dict(two.events_from(right))
            if sorted(here) != sorted(there):
                return events
            for event in here:
                pair = (here[event], there[event])
                if pair[0] and pair not in known:
                    known.add(pair)
                    further.append(pair)
        level = further
        if not level:
            return None
        if len(known) > most:
            return "far"
    return "far"

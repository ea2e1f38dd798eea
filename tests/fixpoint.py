"""Numbers of events by going on until nothing changes, over what frames are handed.

This is what the document says in [21], worked out without any order of what is looked at, and with the
silent steps of the reference: slow, but for runs and frames of any length.
"""

from reference import Reference

NEVER = 10 ** 100


class Rights:
    """Frames that are handed rights."""

    def __init__(self, program):
        self.reference = Reference(program)
        self.owned = dict(program.owners())
        self.owner_of = {name: owner for name, owner, _ in program.functions()}
        self.first = frozenset(program.rights())

    def standing(self, name, path, handed):
        own = frozenset(self.owned[self.owner_of[name]])
        return own if self.reference.marked_at(name, path) else own & handed

    def tail(self, handed, standing):
        return handed

    def passes(self, standing, right):
        return right in standing


class Owners(Rights):
    """Frames that are handed the owners that are met below."""

    def __init__(self, program):
        Rights.__init__(self, program)
        self.first = frozenset()

    def standing(self, name, path, handed):
        own = frozenset([self.owner_of[name]])
        return own if self.reference.marked_at(name, path) else own | handed

    def passes(self, standing, right):
        return all(right in self.owned[owner] for owner in standing)


class Stayed(Rights):
    """Frames that are handed rights, and what they would be if frames with tail calls stayed."""

    def __init__(self, program):
        Rights.__init__(self, program)
        self.first = (self.first, self.first)

    def standing(self, name, path, handed):
        return tuple(Rights.standing(self, name, path, part) for part in handed)

    def tail(self, handed, standing):
        return handed[0], standing[1]

    def passes(self, standing, right):
        return right in standing[0]


class Both(Rights):
    """Frames of two programs that go along."""

    def __init__(self, program, other):
        Rights.__init__(self, program)
        self.other = Rights(other)
        self.first = (self.first, self.other.first)

    def standing(self, name, path, handed):
        return (Rights.standing(self, name, path, handed[0]), self.other.standing(name, path, handed[1]))

    def passes(self, standing, right):
        return right in standing[0] and right in standing[1]


class Missed(Rights):
    """Frames that are handed rights, the owners that a walk would meet below, and those that it would not."""

    def __init__(self, program):
        Rights.__init__(self, program)
        self.first = (self.first, frozenset(), frozenset())

    def standing(self, name, path, handed):
        rights, met, missed = handed
        own = frozenset([self.owner_of[name]])
        if self.reference.marked_at(name, path):
            return (Rights.standing(self, name, path, rights), own, met | missed)
        return (Rights.standing(self, name, path, rights), met | own, missed)

    def passes(self, standing, right):
        return right in standing[0]


class Fixpoint:
    """The fewest events until frames end (`ends`), until they come (`comes`), and until something happens.

    `happens` has them by (word of the step, place, standing, right or name in it).
    """

    def __init__(self, handing, start=None):
        self.reference = handing.reference
        self.handing = handing
        self.ends = {}
        self.comes = {}
        self.happens = {}
        first = start or (self.reference.first, handing.first)
        self.ends[first] = NEVER
        while self.improve_ends():
            pass
        self.comes[first] = 0
        while self.improve_comings():
            pass

    def steps_of(self, frame):
        """How a frame gets on: tuples (events from its first, word, path, standing, target, frame brought)."""
        name, handed = frame
        fewest = {(name, (((), 0),)): 0}
        told = {}
        while True:
            before = len(told), dict(fewest)
            for inner, events in list(fewest.items()):
                for settled in self.reference.settled(inner):
                    self.step(frame, settled, events, fewest, told)
            if before == (len(told), fewest):
                return list(told.values())

    def step(self, frame, settled, events, fewest, told):
        name, work = settled
        prefix, number = work[-1]
        body = self.reference.body_at(name, prefix)
        if number == len(body):
            if len(work) == 1:
                self.tell(told, (events + 1, "end", (), None, None, None))
            return
        word, target = body[number][0], body[number][-1]
        if word not in ("call", "tail", "check"):
            return
        path = prefix + (number,)
        standing = self.handing.standing(name, path, frame[1])
        brought = None
        further = events + 1
        if word == "check" and not self.handing.passes(standing, target):
            further = NEVER
        if word != "check":
            brought = (target, standing if word == "call" else self.handing.tail(frame[1], standing))
            further += self.ends.get(brought, NEVER)
        self.tell(told, (events + 1, word, path, standing, target, brought))
        if further < NEVER and word != "tail":
            on = (name, work[:-1] + ((prefix, number + 1),))
            fewest[on] = min(further, fewest.get(on, NEVER))

    def tell(self, told, row):
        key = row[1:]
        if key not in told or row[0] < told[key][0]:
            told[key] = row

    def improve_ends(self):
        changed = False
        for frame in list(self.ends):
            best = self.ends[frame]
            for events, word, _, _, _, brought in self.steps_of(frame):
                if brought and brought not in self.ends:
                    self.ends[brought] = NEVER
                    changed = True
                if word == "end":
                    best = min(best, events)
                if word == "tail":
                    best = min(best, events + self.ends[brought])
            if best < self.ends[frame]:
                self.ends[frame] = best
                changed = True
        return changed

    def improve_comings(self):
        changed = False
        for frame in list(self.comes):
            for events, word, path, standing, target, brought in self.steps_of(frame):
                total = self.comes[frame] + events
                if brought and total < self.comes.get(brought, NEVER):
                    self.comes[brought] = total
                    changed = True
                if word != "end":
                    key = (word, (frame[0], path), standing, target)
                    self.happens[key] = min(total, self.happens.get(key, NEVER))
        return changed

    def shortest(self, wanted):
        """The fewest events until something wanted happens, or None."""
        found = [events for key, events in self.happens.items() if wanted(*key)]
        return min(found) if found else None

"""What has been done to an object, so that it can be told and undone."""

from callersrights.bodies import copy_step
from callersrights.errors import NothingToUndo


class Past:
    """Deeds, from the first to the last, each with what stood ahead of it.

    What stood there is kept as it is, so it must be something that is never changed, only replaced.
    """

    def __init__(self, deeds):
        self.deeds = list(deeds)

    def note(self, deed, before):
        """Keep a tuple that tells a deed."""
        self.deeds.append((deed, before))

    def undo(self):
        """Forget the last deed, and return what stood ahead of it."""
        if len(self.deeds) == 0:
            raise NothingToUndo()
        return self.deeds.pop()[1]

    def listed(self):
        """The list of the deeds; a body in a deed is copied as one in a step."""
        return [copy_step(deed) for deed, _ in self.deeds]

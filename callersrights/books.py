"""Books: which rights owners have, need, and could do without."""

from callersrights.bodies import is_tuple_of
from callersrights.errors import InvalidItem, InvalidList
from callersrights.flow import Flow
from callersrights.programs import Program, is_ordered, kept_step, need_known, need_place, need_program
from callersrights.search import run_up_to, search_runs


class Meeting(Flow):
    """Frames that are handed the owners whose frames a walk would meet below them, in the program's order."""

    def first_handed(self):
        """No owner: nothing is below the first frame."""
        return ()

    def standing_at(self, name, path, handed):
        """The owners whose frames a check would meet."""
        own = self.owner_of[name]
        if self.is_marked(name, path):
            return (own,)
        return tuple([owner for owner in self.owned if owner == own or owner in handed])

    def passes(self, standing, right):
        """Whether all owners that are met have a right."""
        return all([right in self.owned[owner] for owner in standing])


def book_of(program):
    """The book with the rights that the owners of a program have."""
    need_program(program)
    rights = program.rights()
    return [(name, [right for right in rights if right in owned]) for name, owned in program.owners()]


def with_book(program, book):
    """The program with the rights of a book."""
    need_program(program)
    need_book(program, book)
    return Program(program.rights(), book, program.functions())


def need_book(program, value):
    """Refuse what is no book of a program."""
    owners = program.owners()
    if not isinstance(value, list) or len(value) != len(owners):
        raise InvalidList(value)
    for owner, item in zip(owners, value):
        if not is_tuple_of(item, 2) or item[0] != owner[0] or not is_ordered(item[1], program.rights()):
            raise InvalidItem(item)


def book_without(program, lacking, lacked):
    """The book in which all owners have all rights, but for one that lacks one, or for none."""
    book = []
    for owner, _ in program.owners():
        book.append((owner, [right for right in program.rights() if owner != lacking or right != lacked]))
    return book


def met_rights(program):
    """The rights of checks that pass and meet frames of an owner, by owner, each as the key of a dict."""
    met = {}
    for owner, _ in program.owners():
        met[owner] = {}
    for event in search_runs(Meeting(program)).all_events():
        if event.word == "check":
            for owner in event.standing:
                met[owner][event.target] = True
    return met


def least_book(program):
    """The book with just the rights that owners need for all checks of a program to pass."""
    need_program(program)
    # Where everyone has every right nothing fails, as with the least book, so the runs are the same.
    met = met_rights(with_book(program, book_without(program, None, None)))
    rights = program.rights()
    return [(owner, [right for right in rights if right in met[owner]]) for owner, _ in program.owners()]


def met_by(program, owner, right):
    """A run, as short as can be, that ends with a check of a right that meets a frame of an owner, or None."""
    need_program(program)
    need_known(owner, [name for name, _ in program.owners()])
    need_known(right, program.rights())
    search = search_runs(Meeting(program))
    return search.nearest(lambda event: event.word == "check" and event.target == right and owner in event.standing)


def idle_rights(program):
    """The list of all rights, each with an owner that has it, that can be taken away without a change of the runs."""
    need_program(program)
    met = met_rights(program)
    return [(owner, right) for owner, rights in book_of(program) for right in rights if right not in met[owner]]


def needless(program, place):
    """A book and a run with it, as short as can be, that ends with a fail at a place, or None if there is none."""
    need_program(program)
    need_place(program, place, ("check",))
    right = kept_step(program, place)[1]
    best = None
    for owner, _ in program.owners():
        # If a run fails, it does so, too, where only an owner met by the last check lacks only this right.
        book = book_without(program, owner, right)
        event = first_fail_at(with_book(program, book), place)
        if event is not None and (best is None or event.total() < best[1].total()):
            best = (book, event)
    # Only the shortest run is spelled out: those with other books may be far too long for that.
    return None if best is None else (best[0], run_up_to(best[1]))


def first_fail_at(program, place):
    """The fail at a place at which runs arrive with the fewest events, or None if there is none."""
    search = search_runs(Flow(program))
    return search.nearest_event(lambda event: event.word == "fail" and event.place() == place)

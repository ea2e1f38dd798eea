"""Live programs: programs whose rights and bodies change, deed by deed."""

from callersrights.bodies import copy_body, is_body
from callersrights.checks import first_fail, outcome
from callersrights.errors import InvalidItem, TakenName
from callersrights.past import Past
from callersrights.programs import Program, need_known, need_program


class Live:
    """A program that is led on.

    The program kept is never changed, each deed puts another one in its place.
    """

    def __init__(self, program):
        need_program(program)
        self._program = program
        self._past = Past([])

    def grant(self, owner, right):
        """Give an owner a right."""
        rights = self._rights_of(owner)
        need_known(right, self._program.rights())
        if right in rights:
            raise TakenName(right)
        self._give(("grant", owner, right), owner, rights + [right])

    def revoke(self, owner, right):
        """Take a right from an owner."""
        rights = self._rights_of(owner)
        need_known(right, rights)
        self._give(("revoke", owner, right), owner, [other for other in rights if other != right])

    def rewrite(self, name, body):
        """Give a function another body."""
        program = self._program
        functions = program.functions()
        names = [function[0] for function in functions]
        need_known(name, names)
        if not is_body(body, names, program.rights()):
            raise InvalidItem(body)
        at = names.index(name)
        functions[at] = (name, functions[at][1], body)
        self._do(("rewrite", name, copy_body(body)), Program(program.rights(), program.owners(), functions))

    def shown(self):
        """The program as it stands."""
        return self._program

    def outcome(self, place):
        """What becomes of a check in runs of the program as it stands."""
        return outcome(self._program, place)

    def first_fail(self):
        """A run of the program as it stands, as short as can be, that ends with a fail, or None."""
        return first_fail(self._program)

    def back(self):
        """Undo the last deed."""
        self._program = self._past.undo()

    def log(self):
        """The list of the deeds that have not been undone."""
        return self._past.listed()

    def copy(self):
        """A live program of its own, with the same program and the same deeds to undo."""
        twin = Live(self._program)
        twin._past = Past(self._past.deeds)
        return twin

    def __eq__(self, other):
        if not isinstance(other, Live):
            return False
        return self._program == other._program

    def _rights_of(self, owner):
        """The rights of an owner, or a refusal."""
        owned = self._program.owners()
        need_known(owner, [name for name, _ in owned])
        return [rights for name, rights in owned if name == owner][0]

    def _give(self, deed, owner, rights):
        """Do a deed by which an owner has these rights."""
        program = self._program
        owners = [(name, rights if name == owner else owned) for name, owned in program.owners()]
        self._do(deed, Program(program.rights(), owners, program.functions()))

    def _do(self, deed, program):
        """Put a program in the place of the one that stands."""
        self._past.note(deed, self._program)
        self._program = program

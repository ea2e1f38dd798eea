"""Libraries: books of a program, kept by names."""

from callersrights.bodies import is_name
from callersrights.books import need_book, with_book
from callersrights.checks import never_fails
from callersrights.errors import InvalidName, TakenName
from callersrights.marks import has_same_runs
from callersrights.past import Past
from callersrights.programs import copy_owners, need_known, need_program


class Library:
    """Books of a program.

    The dict of the books and the list of their names are never changed, each step puts others in their place;
    so a loop over the names goes on over those with which it began.
    """

    def __init__(self, program):
        need_program(program)
        self._program = program
        self._books = {}
        self._names = []
        self._past = Past([])

    def put(self, name, book):
        """Keep one more book."""
        if not is_name(name):
            raise InvalidName(name)
        if name in self._names:
            raise TakenName(name)
        self._set("put", name, book)

    def drop(self, name):
        """Take a book out."""
        need_known(name, self._names)
        self._do("drop", name, {kept: self._books[kept] for kept in self._names if kept != name})

    def change(self, name, book):
        """Keep another book by a name."""
        need_known(name, self._names)
        self._set("change", name, book)

    def book_of(self, name):
        """The book that is kept by a name."""
        need_known(name, self._names)
        return copy_owners(self._books[name])

    def names(self):
        """The list of the names, in order."""
        return list(self._names)

    def quiet(self):
        """The list of the names of the books with which nothing fails, in order."""
        return [name for name in self._names if never_fails(self._program_with(name))]

    def alike(self, book):
        """The list of the names of the books with which the runs are those with a book, in order."""
        program = with_book(self._program, book)
        return [name for name in self._names if has_same_runs(program, self._program_with(name))]

    def back(self):
        """Undo the last step."""
        self._show(self._past.undo())

    def log(self):
        """The list of the steps that have not been undone."""
        return self._past.listed()

    def copy(self):
        """A library of its own, with the same books and the same steps to undo."""
        twin = Library(self._program)
        twin._show(self._books)
        twin._past = Past(self._past.deeds)
        return twin

    def __len__(self):
        return len(self._names)

    def __contains__(self, name):
        return name in self._names

    def __iter__(self):
        return iter(self._names)

    def __eq__(self, other):
        if not isinstance(other, Library):
            return False
        return self._program == other._program and self._books == other._books

    def _program_with(self, name):
        """The program with the book that is kept by a name."""
        return with_book(self._program, self._books[name])

    def _set(self, word, name, book):
        """Do a step by which a book is kept by a name."""
        need_book(self._program, book)
        books = {kept: self._books[kept] for kept in self._names}
        books[name] = copy_owners(book)
        self._do(word, name, books)

    def _do(self, word, name, books):
        """Do a step by which these books are kept."""
        self._past.note((word, name), self._books)
        self._show(books)

    def _show(self, books):
        """Keep these books from now on."""
        self._books = books
        self._names = sorted(books)

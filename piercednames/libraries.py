"""Libraries, and stacks of them, which clients use."""

from piercednames.errors import DuplicateName, InvalidName
from piercednames.joining import joined
from piercednames.meaning import check_right
from piercednames.texts import read_text, scan_text
from piercednames.words import is_name
from piercednames.writing import program_text


class Library:
    """A right program with a name, which exports what its root declares. It never changes."""

    def __init__(self, name, program):
        if not is_name(name):
            raise InvalidName(name)
        check_right(program)
        self.name = name
        self.program = program
        self._exports = exports_of(program)

    def exports(self):
        """The dict from the exported names, ascending, to pairs of a declaration and its parameters."""
        return {name: self._exports[name] for name in self._exports}

    def edition(self, net):
        """The library with a net joined to its program."""
        return Library(self.name, joined(self.program, net))

    def __eq__(self, other):
        return isinstance(other, Library) and self.name == other.name and self.program == other.program

    def __len__(self):
        return len(self._exports)

    def __bool__(self):
        return True

    def __repr__(self):
        return f"Library({self.name}, {len(self._exports)} exports)"


class Stack:
    """Libraries in an order: of those that export a name, the last one is seen. It never changes."""

    def __init__(self, *libraries):
        names = []
        for library in libraries:
            if library.name in names:
                raise DuplicateName(library.name)
            names.append(library.name)
        self._libraries = list(libraries)
        self._seen = seen_in(libraries)

    def libraries(self):
        """The list of the libraries."""
        return list(self._libraries)

    def sees(self, name):
        """The tuple (library, declaration, many) that is seen under a name, None for any other value."""
        return self._seen.get(name) if is_name(name) else None

    def seen(self):
        """The dict from all names that are seen, ascending, to what is seen under them."""
        return {name: self._seen[name] for name in self._seen}

    def meanings(self, client):
        """The list of the client meanings of the uses of a client."""
        many = {name: self._seen[name][2] for name in self._seen}
        return [None if own else self._seen[name] for name, own in scan_text(client, seen=many)]

    def stacked_text(self, client):
        """The text of all libraries, each one within the one ahead, and of a client in the last one."""
        # The client is read for the error that it raises: as a whole the text could be read otherwise.
        self.meanings(client)
        texts = [program_text(library.program) + "block {\n" for library in self._libraries]
        end = "" if client == "" or client.endswith("\n") else "\n"
        return "".join(texts) + client + end + "}\n" * len(self._libraries)

    def stacked(self, client):
        """The program that is read from the stacked text."""
        return read_text(self.stacked_text(client))

    def __add__(self, library):
        libraries = [library if own.name == library.name else own for own in self._libraries]
        if library.name not in self:
            libraries.append(library)
        return Stack(*libraries)

    def __contains__(self, name):
        return name in [library.name for library in self._libraries]

    def __eq__(self, other):
        return isinstance(other, Stack) and self._libraries == other._libraries

    def __len__(self):
        return len(self._libraries)

    def __bool__(self):
        return True

    def __repr__(self):
        return f"Stack({len(self._libraries)} libraries)"


def exports_of(program):
    """The dict from the names of the root, ascending, to pairs of a declaration and its parameters."""
    exports = {}
    for declaration in program.declarations():
        if program.block_of(declaration) == program.root:
            parameters = program.parameters(declaration)
            many = -1 if parameters is None else len(parameters)
            exports[program.name_of(declaration)] = (declaration, many)
    return {name: exports[name] for name in sorted(exports)}


def seen_in(libraries):
    """The dict from all names that libraries export, ascending, to what is seen under them."""
    seen = {}
    for library in libraries:
        exports = library.exports()
        for name in exports:
            seen[name] = (library.name, *exports[name])
    return {name: seen[name] for name in sorted(seen)}

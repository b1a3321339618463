"""Libraries of diagrams, and drafts of their edits (points 12 and 13)."""

from stepblocks.blocks import Diagram
from stepblocks.building import build_diagrams
from stepblocks.errors import DraftClosed, InvalidText, LibraryFull, Stale, UnknownBlock
from stepblocks.reader import DiagramReader


class Library:
    """Keeps diagrams with different names, each one compiled by itself."""

    MAX_DIAGRAMS = 24

    def __init__(self):
        # An edit replaces these dicts and tuples and never changes them: what drafts took stays as it was.
        self._diagrams = {}
        self._compiled = {}
        self._order = ()
        self._rebuilt = ()
        self._edits = 0

    @classmethod
    def parse(cls, text):
        """Return the library of the diagrams whose texts stand one behind the other in a text."""
        library = cls()
        library.change(_read_diagrams(text, cls.MAX_DIAGRAMS), [])
        return library

    @property
    def names(self):
        """The tuple of the names, ascending."""
        return tuple(self._diagrams)

    @property
    def rebuilt(self):
        """The tuple of the names that the last edit compiled, in build order."""
        return self._rebuilt

    def diagram(self, name):
        """Return the Diagram of a name, or raise UnknownBlock."""
        if name not in self._diagrams:
            raise UnknownBlock(name)
        return self._diagrams[name]

    def compiled(self, name):
        """Return the Compiled of a name, or raise UnknownBlock."""
        if name not in self._compiled:
            raise UnknownBlock(name)
        return self._compiled[name]

    def build_order(self):
        """Yield all names, each one behind those of the blocks of its parts, the smallest one first."""
        for name in self._order:
            yield name

    def draft(self):
        """Return a new open draft."""
        return Draft(self, self._diagrams, self._edits)

    def change(self, puts, drops):
        """Drop all names of a list, put all diagrams of another list, and return the names that were compiled."""
        draft = self.draft()
        for name in drops:
            draft.drop(name)
        for diagram in puts:
            draft.put(diagram)
        draft.commit()
        return self._rebuilt

    def _take_edit(self, diagrams, edits):
        """Take the diagrams of a draft that was made after so many edits."""
        if edits != self._edits:
            raise Stale()
        if len(diagrams) > self.MAX_DIAGRAMS:
            raise LibraryFull()
        ordered = {name: diagrams[name] for name in sorted(diagrams)}
        order, compiled, rebuilt = build_diagrams(ordered, self._diagrams, self._compiled)
        self._diagrams = ordered
        self._compiled = compiled
        self._order = order
        self._rebuilt = rebuilt
        self._edits += 1

    def __str__(self):
        return "\n".join([str(self._diagrams[name]) for name in self._diagrams])


class Draft:
    """Collects the changes of an edit; is_open until it is committed or closed."""

    def __init__(self, library, diagrams, edits):
        self.is_open = True
        self._library = library
        self._diagrams = {name: diagrams[name] for name in diagrams}
        self._edits = edits

    def put(self, diagram):
        """Put a diagram in the place of one of the same name, if there is one."""
        self._check_open()
        self._diagrams[diagram.name] = diagram

    def drop(self, name):
        """Drop the diagram of a name, or raise UnknownBlock."""
        self._check_open()
        if name not in self._diagrams:
            raise UnknownBlock(name)
        del self._diagrams[name]

    def commit(self):
        """Make the edit and close the draft; if it is refused, the draft stays open."""
        self._check_open()
        self._library._take_edit(self._diagrams, self._edits)
        self.is_open = False

    def close(self):
        """Drop the changes."""
        self.is_open = False

    def _check_open(self):
        if not self.is_open:
            raise DraftClosed()

    def __enter__(self):
        return self

    def __exit__(self, *told):
        self.is_open = False


def _read_diagrams(text, most):
    """Return the list of the diagrams that stand in a text, or raise InvalidText."""
    # The empty text has no rows, but splitting it would give one.
    rows = text.split("\n") if text else []
    diagrams = {}
    reader = None
    for number, row in enumerate(rows):
        if reader is None:
            reader = DiagramReader(Diagram.MAX_PORTS, Diagram.MAX_PARTS)
        if len(diagrams) >= most or not reader.take(row) or reader.name in diagrams:
            raise InvalidText(number)
        if reader.is_done:
            diagrams[reader.name] = Diagram.of_reader(reader)
            reader = None
    if reader is not None:
        raise InvalidText(len(rows))
    return list(diagrams.values())

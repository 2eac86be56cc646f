"""What the names in an expression stand for."""

from wardens.errors import SourceError


class Scope:
    """A place where only constants count: in constants, ranges, first values and errors of sensors."""

    def __init__(self, position, constants):
        self.position = position
        self.constants = constants

    def fault(self, what):
        """Raises SourceError with a problem of the item."""
        line, column = self.position
        raise SourceError(line, column, what)

    def look_up(self, name):
        """Returns the meaning of a name."""
        if name not in self.constants:
            self.fault(f"unknown name: {name}")
        return self.constants[name]

    def look_up_dotted(self, part, name):
        """Returns the meaning of the variable of a part."""
        self.fault(f"unknown name: {part}.{name}")


class WideScope(Scope):
    """A place where definitions and variables count, too.

    The variables of a part are a dict of their names and meanings, those of the own part and those
    of each part by its name.
    """

    def __init__(self, position, constants, definitions, own, parts):
        super().__init__(position, constants)
        self.definitions = definitions
        self.own = own
        self.parts = parts

    def look_up(self, name):
        """Returns the meaning of a name."""
        for table in (self.own, self.constants, self.definitions):
            if name in table:
                return table[name]
        found = [variables[name] for variables in self.parts.values() if name in variables]
        if len(found) > 1:
            self.fault(f"ambiguous name: {name}")
        if len(found) == 0:
            self.fault(f"unknown name: {name}")
        return found[0]

    def look_up_dotted(self, part, name):
        """Returns the meaning of the variable of a part."""
        if name not in self.parts.get(part, {}):
            self.fault(f"unknown name: {part}.{name}")
        return self.parts[part][name]

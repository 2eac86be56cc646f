"""What is known of a source while its items are gone through."""


class Draft:
    """What the items gone through so far declare and stand for.

    Names are those of items and of named values. Constants and definitions are dicts of names and
    meanings, parts a dict of the names of parts and dicts of the names and meanings of their
    variables. The lists are those of the project.
    """

    def __init__(self):
        self.names = {}
        self.constants = {}
        self.definitions = {}
        self.parts = {}
        self.variables = []
        self.moving_parts = []
        self.sensors = []
        self.facts = []
        self.requirements = []

    def project(self):
        """Returns the project of a source without problems."""
        plant = (tuple(self.variables), tuple(self.moving_parts), tuple(self.sensors))
        return (plant, tuple(self.facts), tuple(self.requirements))

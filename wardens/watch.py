"""Wardens, which watch one plant each, and fleets of wardens."""

from wardens.errors import NameTaken, NoFit, NoRequirement, NotFound, TooMany
from wardens.judging import members_after, verdict_of
from wardens.limits import OPERATIONS, PAIRS, STATES, WARDENS
from wardens.names import compile_source
from wardens.readings import can_show
from wardens.tracking import track
from wardens.unfolding import unfold


class Warden:
    """Watches one plant: it is passed a reading at each tick, and tells the verdict for each requirement."""

    def __init__(self, source):
        plant, _, requirements = compile_source(source)
        if len(requirements) == 0:
            raise NoRequirement("the source has no requirement")
        machine = unfold(plant, STATES)
        self.plant = plant
        self.states = machine[0]
        # Pairs of the name and the tracked machine of each requirement.
        self.watched = [(name, track(machine, requirement, PAIRS)) for name, requirement in requirements]
        self.row = []
        # For each reading, the list of the sets after it, one for each requirement.
        self.history = []

    def read(self, reading):
        """Adds a reading, and returns the list of the pairs (name, verdict) after it."""
        sets = self.sets_after(reading)
        if len(self.row) >= OPERATIONS:
            raise TooMany("operations")
        self.row.append(tuple(reading))
        self.history.append(sets)
        return self.verdicts()

    def sets_after(self, reading):
        """Returns the list of the sets after one more reading. Raises NoFit, and changes nothing."""
        shows = {values: can_show(self.plant, values, reading) for values in self.states}
        sets = []
        for (_, tracked), members in zip(self.watched, self.sets_now()):
            marks = tracked[0]
            sets.append([number for number in members_after(tracked, members) if shows[marks[number][0]]])
        # Each requirement tracks all runs, so the sets are empty together.
        if len(sets[0]) == 0:
            raise NoFit("no run of the plant fits the readings")
        return sets

    def sets_now(self):
        """Returns the list of the sets for the readings so far; None stands for each before the first one."""
        if len(self.history) == 0:
            return [None] * len(self.watched)
        return self.history[-1]

    def verdicts(self):
        """Returns the list of the pairs (name, verdict) for the readings so far."""
        return [(name, verdict_of(tracked, members))
                for (name, tracked), members in zip(self.watched, self.sets_now())]

    def readings(self):
        """Returns the list of the readings so far."""
        return list(self.row)

    def explain(self, requirement, met):
        """Returns a run that fits the readings, after which the requirement holds, or does not; None without one."""
        index = self.index_of(requirement)
        marks, _, steps, meets = self.watched[index][1]
        members = self.sets_now()[index]
        ends = [] if members is None else [member for member in members if meets[member] == met]
        if len(ends) == 0:
            return None
        number = ends[0]
        backward = [marks[number][0]]
        for sets in list(reversed(self.history))[1:]:
            number = [member for member in sets[index] if number in steps[member]][0]
            backward.append(marks[number][0])
        return list(reversed(backward))

    def index_of(self, requirement):
        """Returns the place of a requirement among those of the source. Raises NotFound."""
        for index, (name, _) in enumerate(self.watched):
            if name == requirement:
                return index
        raise NotFound("requirement", requirement)

    def back(self):
        """Removes the last reading, and returns whether there was one."""
        if len(self.row) == 0:
            return False
        self.row.pop()
        self.history.pop()
        return True


class Fleet:
    """Wardens with names, in the order in which they were put."""

    def __init__(self):
        # Pairs of a name and a warden.
        self.members = []
        # What can be taken back, the last operation at the end: ("put",), ("drop", place, name, warden) or
        # ("read", warden).
        self.operations = []

    def put(self, name, source):
        """Adds a warden without readings."""
        warden = Warden(source)
        if name in self.names():
            raise NameTaken(f"there is a warden {name} already")
        if len(self.members) >= WARDENS:
            raise TooMany("wardens")
        self.check_operations()
        self.members.append((name, warden))
        self.operations.append(("put",))

    def drop(self, name):
        """Removes a warden."""
        place = self.place_of(name)
        self.check_operations()
        _, warden = self.members.pop(place)
        self.operations.append(("drop", place, name, warden))

    def read(self, name, reading):
        """Passes a reading to a warden, and returns the list of its pairs (requirement, verdict) after it."""
        _, warden = self.members[self.place_of(name)]
        # NoFit comes before TooMany.
        warden.sets_after(reading)
        self.check_operations()
        verdicts = warden.read(reading)
        self.operations.append(("read", warden))
        return verdicts

    def verdicts(self):
        """Returns the list of the pairs (name, list of pairs (requirement, verdict))."""
        return [(name, warden.verdicts()) for name, warden in self.members]

    def alarms(self):
        """Returns the list of the pairs (name, requirement) with the verdict "sure"."""
        return [(name, requirement) for name, pairs in self.verdicts()
                for requirement, verdict in pairs if verdict == "sure"]

    def names(self):
        """Returns the list of the names."""
        return [name for name, _ in self.members]

    def back(self):
        """Takes back the last operation that was not taken back, and returns whether there was one."""
        if len(self.operations) == 0:
            return False
        operation = self.operations.pop()
        if operation[0] == "put":
            # Whatever was put behind this warden has been taken back before.
            self.members.pop()
        elif operation[0] == "drop":
            _, place, name, warden = operation
            self.members.insert(place, (name, warden))
        else:
            operation[1].back()
        return True

    def place_of(self, name):
        """Returns the place of the warden with a name. Raises NotFound."""
        names = self.names()
        if name not in names:
            raise NotFound("warden", name)
        return names.index(name)

    def check_operations(self):
        """Raises TooMany if no further operation can be taken back."""
        if len(self.operations) >= OPERATIONS:
            raise TooMany("operations")

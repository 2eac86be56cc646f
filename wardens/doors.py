"""Doors: what can be asked of a source by the names of its requirements, within the limits."""

from wardens.delays import delay, hidden
from wardens.errors import NotFound
from wardens.judging import judge
from wardens.limits import PAIRS, READINGS, SETS, STATES, TWINS
from wardens.monitors import build
from wardens.names import compile_source
from wardens.readings import possible_readings
from wardens.tracking import shortest_run, track
from wardens.unfolding import unfold


def unfold_text(source):
    """Returns the machine of a source."""
    plant, _, _ = compile_source(source)
    return unfold(plant, STATES)


def judge_text(source, requirement, row):
    """Returns the verdict of a row of readings for the requirement with a name."""
    plant, wanted = requirement_of(source, requirement)
    return judge(plant, tracked_of(plant, wanted), row)


def build_text(source, requirement):
    """Returns the monitor of the requirement with a name over all readings that are possible."""
    plant, wanted = requirement_of(source, requirement)
    machine = unfold(plant, STATES)
    readings = possible_readings(plant, machine, READINGS)
    return build(plant, track(machine, wanted, PAIRS), readings, SETS)


def delay_text(source, requirement):
    """Returns the delay of the requirement with a name, an integer or None."""
    plant, wanted = requirement_of(source, requirement)
    return delay(plant, tracked_of(plant, ("once", wanted)), TWINS)


def hidden_text(source, requirement, ticks):
    """Returns hidden runs for the requirement with a name and so many ticks, and their readings, or None."""
    plant, wanted = requirement_of(source, requirement)
    return hidden(plant, tracked_of(plant, ("once", wanted)), ticks, TWINS)


def example_text(source, requirement, *, met=True):
    """Returns a shortest run after which the requirement with a name holds, or does not hold; None without one."""
    plant, wanted = requirement_of(source, requirement)
    return shortest_run(tracked_of(plant, wanted), met)


def differ_text(source, requirement, other):
    """Returns a shortest run after which just one of two requirements holds, or None."""
    plant, _, requirements = compile_source(source)
    wanted = named(requirements, requirement)
    unwanted = named(requirements, other)
    either = ("or", ("and", wanted, ("not", unwanted)), ("and", ("not", wanted), unwanted))
    return shortest_run(tracked_of(plant, either), True)


def requirement_of(source, name):
    """Returns the plant of a source, and the requirement with a name."""
    plant, _, requirements = compile_source(source)
    return plant, named(requirements, name)


def named(requirements, name):
    """Returns the one of a project's requirements that has a name. Raises NotFound."""
    for found, requirement in requirements:
        if found == name:
            return requirement
    raise NotFound("requirement", name)


def tracked_of(plant, requirement):
    """Returns the tracked machine of a requirement."""
    return track(unfold(plant, STATES), requirement, PAIRS)

"""What the sensors can show, and runs and readings made by choices."""

from wardens.boxes import size_of, tuple_at, tuples_in
from wardens.errors import NotARun, TooMany, WrongChoices
from wardens.terms import value_of
from wardens.unfolding import first_up_to, is_run, next_up_to


def can_show(plant, values, reading):
    """Returns True if a reading is possible for the values, otherwise False."""
    return fits(plant, shown_by(plant, values), reading)


def shown_by(plant, values):
    """Returns the tuple of the values that the sensors' terms have for the values."""
    return tuple([value_of(term, values) for _, term, _, _ in plant[2]])


def fits(plant, shown, reading):
    """Returns whether a reading is possible where the sensors' terms have the values in a tuple."""
    if len(reading) != len(plant[2]):
        return False
    return all([item_fits(sensor, middle, item) for sensor, middle, item in zip(plant[2], shown, reading)])


def item_fits(sensor, middle, item):
    """Returns whether a sensor can show an integer, or None, where its term has a value."""
    _, _, error, lossy = sensor
    if item is None:
        return lossy
    return abs(item - middle) <= error


def count_readings(plant, values, most):
    """Returns the number of possible readings if it is at most `most`, otherwise `most + 1`."""
    return min(size_of(reading_box(plant, values)), most + 1)


def readings_at(plant, values):
    """Returns the list of the readings that are possible for the values, in order."""
    box = reading_box(plant, values)
    return [reading_from(plant, box, row) for row in tuples_in(box)]


def reading_box(plant, values):
    """Returns a box with a tuple for each possible reading, in the same order.

    Where a sensor is lossy, the integer behind all that it can show stands for None.
    """
    box = []
    for (_, _, error, lossy), middle in zip(plant[2], shown_by(plant, values)):
        box.append((middle - error, middle + error + (1 if lossy else 0)))
    return box


def reading_from(plant, box, row):
    """Returns the reading for which a tuple in a box of readings stands."""
    items = []
    for (_, _, _, lossy), (_, greatest), number in zip(plant[2], box, row):
        items.append(None if lossy and number == greatest else number)
    return tuple(items)


def possible_readings(plant, machine, most):
    """Returns the list of the readings that are possible in some state, each once.

    Raises TooMany if there are more than `most`.
    """
    found = {}
    for values in machine[0]:
        if count_readings(plant, values, most) > most:
            raise TooMany("readings")
        for reading in readings_at(plant, values):
            found[reading] = True
        if len(found) > most:
            raise TooMany("readings")
    return list(found)


def simulate(plant, choices, most):
    """Returns the run that choices pick; it ends early at a dead end.

    Raises TooMany if a choice has to pick from more than `most` values.
    """
    run = []
    for choice in choices:
        options = next_up_to(plant, run[-1], most) if len(run) > 0 else first_up_to(plant, most)
        if len(options) == 0:
            break
        run.append(options[choice % len(options)])
    return run


def readings_of(plant, run, choices, most):
    """Returns the list of the readings that choices pick, one for each tick of a run."""
    if not is_run(plant, run):
        raise NotARun("these values are not a run of the plant")
    if len(choices) != len(run):
        raise WrongChoices("there has to be one choice for each tick")
    boxes = [reading_box(plant, values) for values in run]
    if any([size_of(box) > most for box in boxes]):
        raise TooMany("readings")
    return [reading_from(plant, box, tuple_at(box, choice % size_of(box))) for box, choice in zip(boxes, choices)]

"""Delays: how late it is noticed at the latest that a requirement has been met.

Pairs are those of twins, and go by their numbers in the graph of the twins.
"""

from wardens.graphs import longest_from, on_rounds, shortest_way, within
from wardens.pairing import hiding, twin_graph
from wardens.twins import shared_reading

LARGEST_ERROR = 1000


def delay(plant, tracked, most):
    """Returns the delay of R, or None; tracked is that of ("once", R)."""
    pairs, _, steps = twin_graph(plant, tracked, most)
    return longest_of(longest_from(steps, hiding(tracked, pairs)))


def doubt(plant, tracked, most):
    """Returns the doubt of a requirement, or None; tracked is that of the requirement itself."""
    pairs, _, steps = twin_graph(plant, tracked, most)
    met = tracked[3]
    lengths = longest_from(steps, [True] * len(pairs))
    return longest_of([length for (first, second), length in zip(pairs, lengths) if met[first] != met[second]])


def longest_of(lengths):
    """Returns the greatest length, 0 if there is none, or None if one of them is None."""
    if any([length is None for length in lengths]):
        return None
    return max(lengths, default=0)


def hidden(plant, tracked, ticks, most):
    """Returns two hidden runs for so many ticks and their readings, or None; tracked is that of ("once", R)."""
    pairs, starts, steps = twin_graph(plant, tracked, most)
    lengths = longest_from(steps, hiding(tracked, pairs))
    way = shortest_way(starts, steps, [hides_for(length, ticks) for length in lengths])
    if way is None:
        return None
    for left in reversed(range(ticks)):
        way.append([later for later in steps[way[-1]] if hides_for(lengths[later], left)][0])
    return told(plant, tracked, pairs, way)


def hides_for(length, ticks):
    """Returns whether a row of hiding pairs goes on for so many ticks behind its first pair, from its length."""
    return length is None or length > ticks


def confused(plant, tracked, most):
    """Returns two runs that are never told apart, as a way and a round, or None; tracked is that of ("once", R)."""
    pairs, starts, steps = twin_graph(plant, tracked, most)
    hiding_steps = within(steps, hiding(tracked, pairs))
    way = shortest_way(starts, steps, on_rounds(hiding_steps))
    if way is None:
        return None
    last = way[-1]
    back = shortest_way(hiding_steps[last], hiding_steps, [number == last for number in range(len(pairs))])
    return told(plant, tracked, pairs, way), told(plant, tracked, pairs, back)


def told(plant, tracked, pairs, way):
    """Returns the values of both runs and their readings, as three lists, from a list of numbers of pairs."""
    marks = tracked[0]
    firsts = [marks[pairs[number][0]][0] for number in way]
    seconds = [marks[pairs[number][1]][0] for number in way]
    return firsts, seconds, [shared_reading(plant, first, second) for first, second in zip(firsts, seconds)]


def tolerance(plant, tracked, sensor, ticks, most):
    """Returns the greatest error of a sensor with which R is told within so many ticks, or None.

    Tracked is that of ("once", R).
    """
    # With the largest error there are the most twins, so TooMany is raised here or nowhere.
    if is_told(plant, tracked, sensor, LARGEST_ERROR, ticks, most):
        return LARGEST_ERROR
    if not is_told(plant, tracked, sensor, 0, ticks, most):
        return None
    right = 0
    wrong = LARGEST_ERROR
    while wrong - right > 1:
        middle = (right + wrong) // 2
        if is_told(plant, tracked, sensor, middle, ticks, most):
            right = middle
        else:
            wrong = middle
    return right


def is_told(plant, tracked, sensor, error, ticks, most):
    """Returns whether R is told within so many ticks with an error in place of the sensor's own."""
    found = delay(with_error(plant, sensor, error), tracked, most)
    return found is not None and found <= ticks


def with_error(plant, sensor, error):
    """Returns a plant with an error in place of a sensor's own."""
    variables, parts, sensors = plant
    name, term, _, lossy = sensors[sensor]
    return (variables, parts, sensors[:sensor] + ((name, term, error, lossy),) + sensors[sensor + 1:])

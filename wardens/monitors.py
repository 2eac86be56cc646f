"""Monitors: machines that say a verdict after each reading, without looking at the plant."""

from wardens.errors import OtherReadings, TooMany
from wardens.graphs import distances_to
from wardens.judging import verdict_of
from wardens.masks import mask_of, numbers_in, union_of
from wardens.minimal import reduce
from wardens.readings import fits, shown_by


def build(plant, tracked, readings, most):
    """Returns the monitor of the requirement of a tracked machine over a list of different readings.

    Raises TooMany if the beginning and the sets of tracked states are more than `most` in all.
    """
    listed = tuple([tuple(reading) for reading in readings])
    verdicts, edges = nodes_of(tracked, showing(plant, tracked, listed), most)
    return reduce((listed, 0, tuple(verdicts), tuple(edges)))


def showing(plant, tracked, readings):
    """Returns for each reading the mask of the tracked states in whose values it is possible."""
    shown = [shown_by(plant, values) for values, _ in tracked[0]]
    return [mask_of([number for number, middles in enumerate(shown) if fits(plant, middles, reading)])
            for reading in readings]


def nodes_of(tracked, shows, most):
    """Returns the verdicts and the edges of the beginning, which is node 0, and of all sets, as lists.

    Shows has for each reading the mask of the tracked states that can show it.
    """
    steps = [mask_of(row) for row in tracked[2]]
    verdicts = ["impossible"]
    edges = []
    # For each node, the mask of the tracked states that can come next; the beginning is not a set.
    nexts = [mask_of(tracked[1])]
    nodes = {}
    while len(edges) < len(verdicts):
        if len(verdicts) > most:
            raise TooMany("sets")
        row = []
        for show in shows:
            members = nexts[len(edges)] & show
            if members not in nodes:
                nodes[members] = len(verdicts)
                verdicts.append(verdict_of(tracked, numbers_in(members)))
                nexts.append(union_of(steps, members))
            row.append(nodes[members])
        edges.append(tuple(row))
    return verdicts, edges


def says(monitor, row):
    """Returns the verdict that a monitor says for a list or tuple of readings."""
    readings, node, verdicts, edges = monitor
    places = {reading: place for place, reading in enumerate(readings)}
    for reading in row:
        place = places.get(tuple(reading))
        if place is None:
            return "impossible"
        node = edges[node][place]
    return verdicts[node]


def same(monitor, other):
    """Returns None if two monitors say the same, otherwise the first shortest row for which they do not.

    Raises OtherReadings if their lists of readings are not equal.
    """
    readings, first, verdicts, edges = monitor
    other_readings, other_first, other_verdicts, other_edges = other
    if readings != other_readings:
        raise OtherReadings("the monitors are not over the same list of readings")
    pairs = [(first, other_first)]
    # For each pair of nodes, the pair before it and the reading that leads from there to it.
    origins = {pairs[0]: None}
    done = 0
    while done < len(pairs):
        left, right = pairs[done]
        if verdicts[left] != other_verdicts[right]:
            return row_to(pairs[done], origins)
        for reading, later, other_later in zip(readings, edges[left], other_edges[right]):
            if (later, other_later) not in origins:
                origins[(later, other_later)] = (pairs[done], reading)
                pairs.append((later, other_later))
        done += 1
    return None


def row_to(pair, origins):
    """Returns the row of readings that leads to a pair of nodes."""
    backward = []
    while origins[pair] is not None:
        pair, reading = origins[pair]
        backward.append(reading)
    return list(reversed(backward))


def settled(monitor):
    """Returns a list with a truth value for each node: whether it is settled."""
    _, _, verdicts, edges = monitor
    # For each verdict, the steps from each node to one with a verdict that would unsettle it.
    distances = {}
    for verdict in verdicts:
        if verdict not in distances:
            distances[verdict] = distances_to(edges, [said not in (verdict, "impossible") for said in verdicts])
    return [distances[verdict][node] is None for node, verdict in enumerate(verdicts)]

"""Trials: rows of readings that find out whether a device says what a monitor says.

The rows here are tuples of the indexes of readings, but the trials themselves are lists of readings.
"""

from wardens.errors import TooMany
from wardens.graphs import distances_to
from wardens.minimal import reduce


def cover(monitor):
    """Returns the list of the rows of the cover of a smallest monitor: one that leads to each node."""
    _, first, _, edges = monitor
    rows = [()]
    ends = [first]
    reached = {first: True}
    done = 0
    while done < len(rows):
        for index, node in enumerate(edges[ends[done]]):
            if node not in reached:
                reached[node] = True
                rows.append(rows[done] + (index,))
                ends.append(node)
        done += 1
    return rows


def separators(monitor):
    """Returns the list of the separators of a smallest monitor: for any two nodes, one tells them apart."""
    found = {(): True}
    for row in telling_rows(monitor):
        found[row] = True
    return list(found)


def telling_rows(monitor):
    """Returns for each pair of different nodes, in order, the first shortest row that tells them apart."""
    _, _, verdicts, edges = monitor
    pairs = [(node, later) for later in range(len(verdicts)) for node in range(later)]
    numbers = numbers_of(pairs)
    # For each pair and each reading, the number of the pair to which it leads; None if the nodes meet.
    led = [[numbers.get(ends) for ends in zip(edges[left], edges[right])] for left, right in pairs]
    steps = [[number for number in row if number is not None] for row in led]
    lengths = distances_to(steps, [verdicts[left] != verdicts[right] for left, right in pairs])
    rows = {}
    for pair in sorted(range(len(pairs)), key=lambda number: lengths[number]):
        rows[pair] = ()
        if lengths[pair] > 0:
            index = first_nearer(led[pair], lengths, lengths[pair] - 1)
            rows[pair] = (index,) + rows[led[pair][index]]
    return [rows[pair] for pair in range(len(pairs))]


def numbers_of(pairs):
    """Returns a dict with the number of each pair, also for the same pair the other way round."""
    numbers = {}
    for number, (left, right) in enumerate(pairs):
        numbers[(left, right)] = number
        numbers[(right, left)] = number
    return numbers


def first_nearer(led, lengths, length):
    """Returns the index of the first reading that leads to a pair with this length of its shortest row."""
    return [number is not None and lengths[number] == length for number in led].index(True)


def trials(monitor, extra, most):
    """Returns the list of the trials for so many nodes more, each a list of readings.

    Raises TooMany if more than `most` of them come about, each counted as often as it does.
    """
    smallest = reduce(monitor)
    readings, _, verdicts, _ = smallest
    beginnings = len(verdicts) * count_rows(len(readings), extra + 1)
    # The number of separators is at least 1, and to find them can take long.
    if beginnings > most:
        raise TooMany("tests")
    endings = separators(smallest)
    if beginnings * len(endings) > most:
        raise TooMany("tests")
    middles = rows_up_to(len(readings), extra + 1)
    found = {}
    for start in cover(smallest):
        for middle in middles:
            for ending in endings:
                found[start + middle + ending] = True
    return [[readings[index] for index in row] for row in found]


def count_rows(readings, longest):
    """Returns the number of the rows of at most so many readings, from the number of different ones."""
    total = 1
    power = 1
    for _ in range(longest):
        power *= readings
        total += power
    return total


def rows_up_to(readings, longest):
    """Returns the list of these rows, shorter ones first, and those of one length in order."""
    rows = [()]
    newest = [()]
    for _ in range(longest):
        newest = [row + (index,) for row in newest for index in range(readings)]
        rows.extend(newest)
    return rows

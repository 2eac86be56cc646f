"""Steps between numbered nodes: for each node, the tuple of the numbers of its next ones."""


def ahead_of(steps):
    """Returns for each node the list of those that have it among their next ones, in ascending order."""
    ahead = [[] for row in steps]
    for number, row in enumerate(steps):
        for later in row:
            ahead[later].append(number)
    return ahead


def ranks_of(steps, goals, needed):
    """Returns a rank or None for each node.

    Nodes at which goals has True have the rank 0. Any other node gets a rank as soon as so many of its
    next nodes as needed says have one: one more than the greatest of theirs. If needed says 0, it gets none.
    """
    ahead = ahead_of(steps)
    ranks = [0 if goal else None for goal in goals]
    missing = list(needed)
    # The nodes come in the order of their ranks, so the last one that a node needs has the greatest.
    ranked = [number for number, goal in enumerate(goals) if goal]
    done = 0
    while done < len(ranked):
        number = ranked[done]
        done += 1
        for earlier in ahead[number]:
            missing[earlier] -= 1
            if missing[earlier] == 0 and ranks[earlier] is None:
                ranks[earlier] = ranks[number] + 1
                ranked.append(earlier)
    return ranks


def distances_to(steps, goals):
    """Returns for each node the least number of steps from it to a goal, or None if no way leads there."""
    return ranks_of(steps, goals, [1] * len(steps))

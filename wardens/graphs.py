"""Steps between numbered nodes: for each node, the tuple of the numbers of its next ones."""


def ahead_of(steps):
    """Returns for each node the list of those that have it among their next ones, in ascending order."""
    ahead = [[] for row in steps]
    for number, row in enumerate(steps):
        for later in row:
            ahead[later].append(number)
    return ahead


def ranks_of(steps, goals, needed):
    """Returns a rank or None for each node.

    Nodes at which goals has True have the rank 0. Any other node gets a rank as soon as so many of its
    next nodes as needed says have one: one more than the greatest of theirs. If needed says 0, it gets none.
    """
    ahead = ahead_of(steps)
    ranks = [0 if goal else None for goal in goals]
    missing = list(needed)
    # The nodes come in the order of their ranks, so the last one that a node needs has the greatest.
    ranked = [number for number, goal in enumerate(goals) if goal]
    done = 0
    while done < len(ranked):
        number = ranked[done]
        done += 1
        for earlier in ahead[number]:
            missing[earlier] -= 1
            if missing[earlier] == 0 and ranks[earlier] is None:
                ranks[earlier] = ranks[number] + 1
                ranked.append(earlier)
    return ranks


def distances_to(steps, goals):
    """Returns for each node the least number of steps from it to a goal, or None if no way leads there."""
    return ranks_of(steps, goals, [1] * len(steps))


def shortest_way(starts, steps, goals):
    """Returns a shortest way from a start to a goal, as a list of nodes, or None if there is none.

    It begins with the first of the starts from which it can go on, and at each node takes the first step.
    """
    distances = distances_to(steps, goals)
    node = nearest(starts, distances)
    if node is None:
        return None
    way = [node]
    while distances[node] > 0:
        node = nearest(steps[node], distances)
        way.append(node)
    return way


def nearest(nodes, distances):
    """Returns the first of the nodes that have the least distance, or None if none of them has one."""
    near = [node for node in nodes if distances[node] is not None]
    return min(near, key=lambda node: distances[node], default=None)


def within(steps, members):
    """Returns the steps between members alone; members has a truth value for each node."""
    return [[later for later in row if members[later]] if member else [] for row, member in zip(steps, members)]


def longest_from(steps, members):
    """Returns for each node the number of nodes of the longest way through members that begins with it.

    This is 0 for a node that is none of them, and None if such a way can go on for ever.
    """
    kept = within(steps, members)
    ranks = ranks_of(kept, [len(row) == 0 for row in kept], [len(row) for row in kept])
    return [longest_for(rank, member) for rank, member in zip(ranks, members)]


def longest_for(rank, member):
    """Returns the number of nodes of the longest way from a node, from its rank among the members."""
    if rank is None:
        return None
    return rank + 1 if member else 0


def on_rounds(steps):
    """Returns for each node whether some way of at least one step leads from it back to it."""
    ahead = ahead_of(steps)
    truths = [None] * len(steps)
    # Of the nodes that are left, the steps backward from the one that was finished last lead to just
    # those with which it shares rounds.
    for root in reversed(finished_order(steps)):
        if truths[root] is None:
            group = unmarked_from(root, ahead, truths)
            for node in group:
                truths[node] = len(group) > 1 or node in steps[node]
    return truths


def unmarked_from(root, steps, marks):
    """Returns the list of the nodes whose mark is None to which such nodes lead from a root."""
    group = [root]
    known = {root: True}
    done = 0
    while done < len(group):
        for later in steps[group[done]]:
            if marks[later] is None and later not in known:
                known[later] = True
                group.append(later)
        done += 1
    return group


def finished_order(steps):
    """Returns the list of the nodes in the order in which a walk into depth leaves them."""
    order = []
    entered = [False] * len(steps)
    for root in range(len(steps)):
        trail = []
        if not entered[root]:
            entered[root] = True
            trail.append((root, 0))
        while len(trail) > 0:
            node, taken = trail.pop()
            if taken == len(steps[node]):
                order.append(node)
                continue
            trail.append((node, taken + 1))
            later = steps[node][taken]
            if not entered[later]:
                entered[later] = True
                trail.append((later, 0))
    return order

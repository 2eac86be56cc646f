"""The smallest of the monitors that say the same."""


def reduce(monitor):
    """Returns the smallest monitor that says the same, over the same list of readings."""
    readings, first, verdicts, edges = monitor
    nodes = reached_from(first, edges)
    classes = classes_of(nodes, verdicts, edges)
    kept_verdicts = []
    kept_edges = []
    for node in nodes:
        # Classes are numbered as they come about, so a node with the next number is the first of its class.
        if classes[node] == len(kept_edges):
            kept_verdicts.append(verdicts[node])
            kept_edges.append(tuple([classes[later] for later in edges[node]]))
    return (readings, 0, tuple(kept_verdicts), tuple(kept_edges))


def reached_from(first, edges):
    """Returns the list of the nodes that are reached from the first one, breadth first."""
    nodes = [first]
    found = {first: True}
    done = 0
    while done < len(nodes):
        for later in edges[nodes[done]]:
            if later not in found:
                found[later] = True
                nodes.append(later)
        done += 1
    return nodes


def classes_of(nodes, verdicts, edges):
    """Returns a dict of the nodes and the numbers of their classes: nodes in one class say the same.

    The nodes come breadth first, and the classes are numbered in the order of their first nodes. This is
    breadth first, too: what a further node of a class leads to are classes that its first node leads to.
    """
    classes = numbered({node: verdicts[node] for node in nodes})
    before = 0
    while before < count_of(classes):
        before = count_of(classes)
        views = {node: (classes[node],) + tuple([classes[later] for later in edges[node]]) for node in nodes}
        classes = numbered(views)
    return classes


def numbered(views):
    """Returns a dict with a number for each node, the same for those with the same view."""
    numbers = {}
    classes = {}
    for node, view in views.items():
        classes[node] = numbers.setdefault(view, len(numbers))
    return classes


def count_of(classes):
    """Returns the number of classes."""
    return max(classes.values()) + 1

"""The memory of a requirement: what has to be known of a run to tell how it goes on.

Each requirement but `not`, `and` and `or` has an item of its own in the memory, ahead of those of its parts.
"""

WITHOUT_ITEM = ("not", "and", "or")


def facts_in(requirement):
    """Returns the list of the facts of a requirement from left to right, one for each place."""
    if requirement[0] == "fact":
        return [requirement[1]]
    facts = []
    for part in parts_of(requirement):
        facts.extend(facts_in(part))
    return facts


def weight(requirement):
    """Returns the weight of a requirement: the number of its memories is at most that."""
    word = requirement[0]
    product = 1
    if word in ("before", "once", "since"):
        product = 2
    if word == "oncein":
        product = requirement[1] + 2
    for part in parts_of(requirement):
        product *= weight(part)
    return product


def first_memory(requirement, holds):
    """Returns the memory after a run of one tick at which the facts have the truth values in holds."""
    return Tick(None, holds).memory_after(requirement)


def next_memory(requirement, memory, holds):
    """Returns the memory after one more tick at which the facts have the truth values in holds."""
    return Tick(memory, holds).memory_after(requirement)


def meets(requirement, memory):
    """Returns True if a requirement holds after a run with this memory, otherwise False."""
    truth, _ = truth_at(requirement, memory, 0)
    return truth


def parts_of(requirement):
    """Returns the list of the requirements of which a requirement is made."""
    if requirement[0] == "fact":
        return []
    return [part for part in requirement[1:] if isinstance(part, tuple)]


def truth_at(requirement, memory, place):
    """Returns whether a requirement holds whose memory begins at a place, and the place behind this memory."""
    own = requirement[0] not in WITHOUT_ITEM
    behind = place + 1 if own else place
    truths = []
    for part in parts_of(requirement):
        truth, behind = truth_at(part, memory, behind)
        truths.append(truth)
    if own:
        return item_holds(requirement, memory[place]), behind
    return joined(requirement[0], truths), behind


def item_holds(requirement, item):
    """Returns whether a requirement holds that has this item of its own."""
    if requirement[0] == "oncein":
        return item <= requirement[1]
    return item


def joined(word, truths):
    """Returns the truth of `not`, `and` or `or` from those of the parts."""
    if word == "not":
        return not truths[0]
    if word == "and":
        return all(truths)
    return any(truths)


class Tick:
    """One tick, with the memory before it, or None before the first one, and the truth values of the facts.

    Items stand at the same places in the memory before the tick and in the one after it, so one walk
    through the requirement goes along both.
    """

    def __init__(self, before, holds):
        self.before = before
        self.holds = holds
        self.facts_passed = 0
        self.after = []

    def memory_after(self, requirement):
        """Returns the memory after the tick."""
        self.walk(requirement)
        return tuple(self.after)

    def walk(self, requirement):
        """Adds the memory of a requirement. Returns whether it held before the tick, and whether it does after it.

        At the first tick, the former means nothing.
        """
        own = requirement[0] not in WITHOUT_ITEM
        place = len(self.after)
        old = None
        if own:
            old = self.old_item(requirement)
            self.after.append(old)
        held = []
        hold = []
        for part in parts_of(requirement):
            truth_before, truth_after = self.walk(part)
            held.append(truth_before)
            hold.append(truth_after)
        if not own:
            return joined(requirement[0], held), joined(requirement[0], hold)
        item = self.new_item(requirement, old, held, hold)
        self.after[place] = item
        return item_holds(requirement, old), item_holds(requirement, item)

    def old_item(self, requirement):
        """Returns the item of a requirement before the tick; at the first tick, one as if it never held."""
        if self.before is not None:
            return self.before[len(self.after)]
        if requirement[0] == "oncein":
            return requirement[1] + 1
        return False

    def new_item(self, requirement, old, held, hold):
        """Returns the item of a requirement after the tick.

        The lists tell which of its parts held before the tick, and which hold after it.
        """
        word = requirement[0]
        if word == "fact":
            self.facts_passed += 1
            return self.holds[self.facts_passed - 1]
        if word == "before":
            return self.before is not None and held[0]
        if word == "once":
            return old or hold[0]
        if word == "since":
            return hold[1] or (old and hold[0])
        return 0 if hold[0] else min(old, requirement[1]) + 1

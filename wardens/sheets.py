"""The texts of monitors."""

from wardens.errors import BadMonitor

VERDICTS = ("sure", "never", "unknown", "impossible")
MOST_ITEMS = 20
MOST_DIGITS = 20
GREATEST_ITEM = 2000000000
MOST_READINGS = 200
MOST_NODES = 200


def print_monitor(monitor):
    """Returns the text of a monitor."""
    readings, first, verdicts, edges = monitor
    lines = [["monitor", "from", str(first)]]
    for reading in readings:
        lines.append(["reading"] + ["lost" if item is None else str(item) for item in reading])
    for verdict, row in zip(verdicts, edges):
        lines.append(["node", verdict] + [str(node) for node in row])
    return "\n".join([" ".join(words) for words in lines])


def parse_monitor(text):
    """Returns the monitor whose text this is. Raises BadMonitor."""
    sheet = Sheet()
    for number, line in enumerate(text.split("\n"), start=1):
        words = [word for word in line.split(" ") if word != ""]
        if len(words) > 0 and not sheet.take(words):
            raise BadMonitor(number)
    if not sheet.is_monitor():
        raise BadMonitor(0)
    return sheet.monitor()


def is_number(word):
    """Returns whether a word is a number."""
    return len(word) <= MOST_DIGITS and word.isdigit()


def is_item(word):
    """Returns whether a word is an item of a reading."""
    if word == "lost":
        return True
    digits = word[1:] if word.startswith("-") else word
    return is_number(digits) and int(digits) <= GREATEST_ITEM


class Sheet:
    """What the lines that have been understood so far say; first is None before the line `monitor`."""

    def __init__(self):
        self.first = None
        self.listed = []
        self.said = []
        self.edges = []

    def take(self, words):
        """Takes the words of one line, and returns whether it is understood."""
        if words[0] == "monitor":
            return self.take_head(words)
        if self.first is None:
            return False
        if words[0] == "reading":
            return self.take_reading(words[1:])
        if words[0] == "node":
            return self.take_node(words[1:])
        return False

    def take_head(self, words):
        """Takes the line with the first node."""
        if self.first is not None or len(words) != 3 or words[1] != "from" or not is_number(words[2]):
            return False
        self.first = int(words[2])
        return True

    def take_reading(self, words):
        """Takes the items of a reading."""
        if len(self.said) > 0 or len(words) > MOST_ITEMS or not all([is_item(word) for word in words]):
            return False
        self.listed.append(tuple([None if word == "lost" else int(word) for word in words]))
        return True

    def take_node(self, words):
        """Takes the verdict of a node, and the numbers of the nodes to which it leads."""
        if len(words) == 0 or words[0] not in VERDICTS or not all([is_number(word) for word in words[1:]]):
            return False
        self.said.append(words[0])
        self.edges.append(tuple([int(word) for word in words[1:]]))
        return True

    def is_monitor(self):
        """Returns whether the lines together are those of a monitor."""
        if self.first is None or self.first >= len(self.said):
            return False
        if len(self.listed) > MOST_READINGS or len(self.said) > MOST_NODES:
            return False
        if len(set(self.listed)) < len(self.listed):
            return False
        return all([self.row_is_right(row) for row in self.edges])

    def row_is_right(self, row):
        """Returns whether a node has one number for each reading, and these are numbers of nodes."""
        return len(row) == len(self.listed) and all([node < len(self.said) for node in row])

    def monitor(self):
        """Returns the monitor."""
        return (tuple(self.listed), self.first, tuple(self.said), tuple(self.edges))

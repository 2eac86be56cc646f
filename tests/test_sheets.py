"""The texts of monitors: points [49] and [50], and the interface of wardens/sheets.py."""

import unittest

from samples import chance_from, random_monitor
from wardens.errors import BadMonitor
from wardens.sheets import parse_monitor, print_monitor

S, N, U, I = "sure", "never", "unknown", "impossible"
MONITOR = (((0, -12), (None, 5), (7, None)), 1, (S, I, N, U), ((0, 1, 2), (3, 3, 3), (2, 0, 1), (0, 0, 0)))
TEXT = """monitor from 1
reading 0 -12
reading lost 5
reading 7 lost
node sure 0 1 2
node impossible 3 3 3
node never 2 0 1
node unknown 0 0 0"""
# Without sensors: one reading, two nodes.
SMALL = "monitor from 0\nreading\nnode impossible 1\nnode sure 1"


class TestPrinting(unittest.TestCase):
    def test_text(self):
        self.assertEqual(print_monitor(MONITOR), TEXT)

    def test_reading_without_items(self):
        self.assertEqual(print_monitor((((),), 0, (I, S), ((1,), (1,)))), SMALL)

    def test_no_readings(self):
        self.assertEqual(print_monitor(((), 0, (I,), ((),))), "monitor from 0\nnode impossible")

    def test_great_numbers(self):
        monitor = (((-2000000000, 2000000000),), 0, (U,), ((0,),))
        self.assertEqual(print_monitor(monitor), "monitor from 0\nreading -2000000000 2000000000\nnode unknown 0")

    def test_back_and_forth(self):
        for text in (TEXT, SMALL):
            self.assertEqual(print_monitor(parse_monitor(text)), text)
        chance = chance_from(50)
        for _ in range(100):
            _, first, verdicts, edges = random_monitor(chance, 12, 3, verdicts=(S, N, U, I))
            items = [None, 0, -1, 1, 2000000000, -2000000000]
            readings = tuple((k, *chance.sample(items, chance.randint(0, 3))) for k in range(3))
            monitor = (readings, first, verdicts, edges)
            self.assertEqual(parse_monitor(print_monitor(monitor)), monitor)


class TestParsing(unittest.TestCase):
    def bad(self, text, line):
        with self.assertRaises(BadMonitor, msg=text) as caught:
            parse_monitor(text)
        self.assertEqual(caught.exception.line, line, text)

    def changed(self, line, new):
        """The text with another line at this place."""
        lines = TEXT.split("\n")
        lines[line - 1] = new
        return "\n".join(lines)

    def test_text(self):
        self.assertEqual(parse_monitor(TEXT), MONITOR)
        self.assertEqual(parse_monitor(SMALL), (((),), 0, (I, S), ((1,), (1,))))
        self.assertEqual(parse_monitor("monitor from 0\nnode unknown"), ((), 0, (U,), ((),)))

    def test_kinds(self):
        monitor = parse_monitor(TEXT)
        for made in (monitor, monitor[0], *monitor[0], monitor[2], monitor[3], *monitor[3]):
            self.assertIs(type(made), tuple)

    def test_spaces_and_empty_lines(self):
        text = "\n   \n" + TEXT.replace(" ", "   ").replace("\n", "  \n\n  ") + "\n\n \n"
        self.assertEqual(parse_monitor(text), MONITOR)

    def test_empty_lines_are_counted(self):
        self.bad("\n\n  \nmonitor from 0\n\nnodes sure", 6)
        self.bad("\nreading 1", 2)

    def test_zeros_in_front(self):
        self.assertEqual(parse_monitor(TEXT.replace("12", "00012").replace("3 3", "003 03")), MONITOR)
        self.assertEqual(parse_monitor(TEXT.replace("reading 0", "reading -0")), MONITOR)
        self.assertEqual(parse_monitor(TEXT.replace("reading 0", "reading -000")), MONITOR)
        self.assertEqual(parse_monitor(TEXT.replace("from 1", "from 01")), MONITOR)

    def test_first_line(self):
        for line in [
            "monitor", "monitor from", "monitor 1", "monitor from 1 2", "monitor from -1", "monitor from -0",
            "monitor from lost", "monitor From 1", "monitor to 1", "Monitor from 1", "monitor from 1.", "monitor from +1",
            "monitors from 1", "from 1", "monitor from x1", "monitor from 1x", "node sure 0 1 2", "reading 0 -12",
        ]:
            self.bad(self.changed(1, line), 1)

    def test_second_first_line(self):
        self.bad(TEXT.replace("reading 0 -12", "monitor from 1"), 2)
        self.bad(TEXT + "\nmonitor from 1", 9)
        self.bad(TEXT + "\nmonitor from", 9)

    def test_readings(self):
        for line in [
            "reading 0 x", "reading 0 Lost", "reading 0 --1", "reading 0 +1", "reading 0 -", "reading 1-", "reading 0 1.0",
            "readings 0 1", "Reading 0 1", "reading 0,1", "reading -lost", "reading None", "reading 0 1_0", "0 1",
        ]:
            self.bad(self.changed(3, line), 3)

    def test_reading_behind_a_node(self):
        self.bad(TEXT + "\nreading 4 4", 9)
        self.bad("monitor from 0\nnode sure\nreading", 3)

    def test_reading_or_node_before_the_first_line(self):
        self.bad("reading 0\nmonitor from 0\nnode sure 0", 1)
        self.bad("node sure\nmonitor from 0", 1)

    def test_nodes(self):
        for line in [
            "node", "node 0 1 2", "node Sure 0 1 2", "node sure 0 1 x", "node sure 0 -1 2", "node sure 0 1 lost",
            "nodes sure 0 1 2", "node sur 0 1 2", "node sure sure 0 1 2", "node sure 0 1 2.", "node sure 0, 1, 2",
            "node sure -0 1 2", "sure 0 1 2",
        ]:
            self.bad(self.changed(5, line), 5)

    def test_other_lines(self):
        for line in ["x", "#", "# no comment", "-", "monitorfrom 1", "node: sure 0 1 2"]:
            self.bad(self.changed(4, line), 4)

    def test_first_of_several_lines(self):
        self.bad("monitor from 9\nreading x\nnode y\n", 2)
        self.bad("monitor from 9\nreading 1\nreading 1\nnode sure 5 6 7\nnode y\n", 5)

    def test_tabs_and_other_characters(self):
        for text in [
            TEXT.replace("reading 0 -12", "reading\t0 -12"), TEXT.replace("reading 0 -12", "reading 0\t-12"),
            TEXT.replace("reading 0 -12", "reading 0 -12\t"), TEXT.replace("reading 0 -12", "\t"),
            TEXT.replace("reading 0 -12", "\treading 0 -12"), TEXT.replace("reading 0 -12", "reading 0 -12;"),
        ]:
            self.bad(text, 2)

    def test_no_line_monitor(self):
        for text in ["", "\n", "   \n  "]:
            self.bad(text, 0)

    def test_no_nodes(self):
        self.bad("monitor from 0", 0)
        self.bad("monitor from 0\nreading 1", 0)

    def test_first_node_that_does_not_exist(self):
        self.bad(self.changed(1, "monitor from 4"), 0)
        self.bad("monitor from 1\nnode sure", 0)

    def test_equal_readings(self):
        self.bad(self.changed(4, "reading lost 5"), 0)
        self.bad(self.changed(4, "reading lost 05"), 0)
        self.bad("monitor from 0\nreading 0\nreading -0\nnode sure 0 0", 0)
        self.bad("monitor from 0\nreading\nreading\nnode sure 0 0", 0)

    def test_readings_of_different_lengths_are_fine(self):
        self.assertEqual(
            parse_monitor("monitor from 0\nreading 1\nreading\nreading 1 1\nnode sure 0 0 0"),
            (((1,), (), (1, 1)), 0, (S,), ((0, 0, 0),)),
        )

    def test_wrong_numbers_of_a_node(self):
        for line in ["node sure 0 1", "node sure", "node sure 0 1 2 3", "node sure 0 1 4", "node sure 4 0 0"]:
            self.bad(self.changed(5, line), 0)
            self.bad(self.changed(8, line), 0)

    def test_20_and_21_words(self):
        many = " 1" * 20
        self.assertEqual(parse_monitor(f"monitor from 0\nreading{many}\nnode sure 0")[0], ((1,) * 20,))
        self.bad(f"monitor from 0\nreading{many} 1\nnode sure 0", 2)
        self.bad(f"monitor from 0\nreading{' lost' * 21}\nnode sure 0", 2)

    def test_greatest_and_least_integers(self):
        text = "monitor from 0\nreading 2000000000 -2000000000\nnode sure 0"
        self.assertEqual(parse_monitor(text)[0], ((2000000000, -2000000000),))
        self.bad(text.replace("reading 2000000000", "reading 2000000001"), 2)
        self.bad(text.replace("-2000000000", "-2000000001"), 2)
        for zeros in ("reading 00002000000000", "reading -0002000000000"):
            self.assertEqual(abs(parse_monitor(text.replace("reading 2000000000", zeros))[0][0][0]), 2000000000)
            self.bad(text.replace("reading 2000000000", zeros[:-1] + "1"), 2)

    def test_20_and_21_digits(self):
        twenty = "00000000000000000012"
        self.assertEqual(len(twenty), 20)
        for old, line in [("-12", 2), ("7", 4)]:
            number = old.replace("12", twenty).replace("7", twenty)
            self.assertEqual(parse_monitor(TEXT.replace(old, number))[0][line - 2].count(12 if line == 4 else -12), 1)
            self.bad(TEXT.replace(old, number.replace(twenty, "0" + twenty)), line)
        self.assertEqual(parse_monitor(TEXT.replace("from 1", "from " + "1".zfill(20))), MONITOR)
        self.bad(TEXT.replace("from 1", "from " + "1".zfill(21)), 1)
        self.assertEqual(parse_monitor(TEXT.replace("3 3 3", "3 3 " + "3".zfill(20))), MONITOR)
        self.bad(TEXT.replace("3 3 3", "3 3 " + "3".zfill(21)), 6)

    def test_great_numbers_of_nodes_are_understood(self):
        self.bad(TEXT.replace("3 3 3", "3 3 " + "9" * 20), 0)
        self.bad(TEXT.replace("from 1", "from " + "9" * 20), 0)

    def test_200_and_201_readings(self):
        for count in (200, 201):
            readings = "".join(f"reading {k}\n" for k in range(count))
            text = f"monitor from 0\n{readings}node sure{' 0' * count}"
            if count == 200:
                self.assertEqual(len(parse_monitor(text)[0]), 200)
            else:
                self.bad(text, 0)

    def test_200_and_201_nodes(self):
        for count in (200, 201):
            text = "monitor from 199" + "\nnode sure" * count
            if count == 200:
                self.assertEqual(parse_monitor(text), ((), 199, (S,) * 200, ((),) * 200))
            else:
                self.bad(text, 0)

    def test_line_that_is_not_understood_behind_too_many(self):
        self.bad("monitor from 0" + "\nnode sure" * 201 + "\nnode x", 203)


if __name__ == "__main__":
    unittest.main()

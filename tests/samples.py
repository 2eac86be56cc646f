"""What several tests use: short ways to write plants, and small machines, facts and requirements at random."""

import random

TRUE, FALSE = ("true",), ("false",)
# A source with a tank, whose gauge is inexact.
TANK = """
part tank { var level : 0..3 from 0; move fill when level < 3 do level := level + 1; move drain do level := 0; }
sensor gauge = level +- 1;
require full = level = 3;
require was = once level = 3;
require calm = always level < 2;
"""


def num(n):
    return ("num", n)


def var(v):
    return ("var", v)


def add(term, n):
    return ("add", term, num(n))


def same(v, n):
    """The condition that a variable has a value."""
    return ("same", var(v), num(n))


def less(v, n):
    """The condition that a variable has a smaller value."""
    return ("less", var(v), num(n))


def at(n, v=0):
    """The fact that a variable has a value."""
    return ("holds", same(v, n))


def fact(n, v=0):
    """The requirement that a variable has a value."""
    return ("fact", at(n, v))


def row(name, least, greatest, first_least=None, first_greatest=None):
    """The row of a variable; without first values it begins with any value, with one of them with just that."""
    first_least = least if first_least is None else first_least
    if first_greatest is None:
        first_greatest = greatest if first_least == least else first_least
    return (name, least, greatest, first_least, first_greatest)


def rows(*ranges):
    """The rows of variables that begin with any value, from pairs of their least and greatest ones."""
    return tuple((f"p.v{v}", least, greatest, least, greatest) for v, (least, greatest) in enumerate(ranges))


def move(*settings, guard=TRUE):
    return ("m", guard, settings)


def part(first, count, *moves):
    return ("p", first, count, moves)


def walker(*steps, first=(0, 0), sensors=()):
    """A plant with one variable: steps has for each value the tuple of the values that come next."""
    moves = [move((0, num(later), num(later)), guard=same(0, value))
             for value, laters in enumerate(steps) for later in laters]
    variables = (("p.x", 0, len(steps) - 1, first[0], first[1]),)
    return (variables, (("p", 0, 1, tuple(moves)),), tuple(sensors))


def machine_of(steps, starts=(0,)):
    """A machine with the values (0,), (1,) and so on."""
    return (tuple((number,) for number in range(len(steps))), tuple(starts), tuple(steps))


def random_walker(chance, most_values, sensors=()):
    size = chance.randint(1, most_values)
    steps = [tuple(chance.sample(range(size), chance.randint(0, min(3, size)))) for _ in range(size)]
    low = chance.randrange(size)
    return walker(*steps, first=(low, chance.randint(low, size - 1)), sensors=sensors)


def random_lamp_walker(chance, most_values):
    """A plant with one sensor that does not tell all values from each other."""
    size = chance.randint(2, most_values)
    steps = [tuple(chance.sample(range(size), chance.choice([1, 1, 2]))) for _ in range(size)]
    low = chance.randrange(size)
    term = chance.choice([("min", var(0), num(1)), ("max", var(0), num(size - 2)), num(0)])
    sensor = ("lamp", term, chance.choice([0, 0, 1]), chance.random() < 0.1)
    return walker(*steps, first=(low, min(size - 1, low + chance.choice([0, 0, 1]))), sensors=[sensor])


def random_fact(chance, depth, values):
    word = chance.choice(["holds", "not", "and", "or", "next", "can", "canin", "must", "mustin"])
    if depth == 0 or word == "holds":
        return ("holds", less(0, chance.randrange(values + 1)))
    if word in ("and", "or"):
        return (word, random_fact(chance, depth - 1, values), random_fact(chance, depth - 1, values))
    if word in ("canin", "mustin"):
        return (word, chance.randint(0, 3), random_fact(chance, depth - 1, values))
    return (word, random_fact(chance, depth - 1, values))


def random_requirement(chance, depth, values):
    word = chance.choice(["fact", "not", "and", "or", "before", "once", "oncein", "since", "since"])
    if depth == 0 or word == "fact":
        return ("fact", random_fact(chance, chance.randint(0, 1), values))
    first = random_requirement(chance, depth - 1, values)
    if word in ("and", "or", "since"):
        return (word, first, random_requirement(chance, depth - 1, values))
    if word == "oncein":
        return (word, chance.randint(0, 2), first)
    return (word, first)


def random_monitor(chance, most_nodes, count, verdicts=("sure", "never", "impossible")):
    """A monitor over so many readings (0,), (1,) and so on; the first verdict is the one of most nodes."""
    size = chance.randint(1, most_nodes)
    said = tuple(chance.choice(verdicts) if chance.random() < 0.5 else verdicts[0] for _ in range(size))
    edges = tuple(tuple(chance.randrange(size) for _ in range(count)) for _ in range(size))
    return (tuple((number,) for number in range(count)), chance.randrange(size), said, edges)


def chance_from(seed):
    """A source of random numbers that are the same in each run of the tests."""
    return random.Random(seed)

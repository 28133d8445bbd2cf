"""Networks for the tests: some by hand, many by chance from a fixed seed."""

import random

from allknow.networks import Network

# Written as [A7] says; the smallest ones, the greatest one, and ordinary ones.
TEXTS = (
    "0: ;",
    "6: ;",
    "1: a ;",
    "1: a, a, a, a ;",
    "0: | ; AB",
    "0: | | | | | ;",
    "1: a | ; AB",
    "1: | a ; BA",
    "2: a, b | | ; AB, AB, BC, AC",
    "2: a | b | ; AB, BC",
    "3: ab, bc | c | ; AB, BC, CA",
    "3: abc | abc, abc | c | ; AB, BA, AD, DA, CB",
    "2: a | b | | ; AC, BC, CD, DA, DB",
    "6: abcdef, a, f, bdf | | | | | abcdef ; AF, FA, AB, BC, CD, DE, EF",
    "0: | ;" + ",".join([" AB"] * 16),
    "6:" + " |".join([",".join([" abcdef"] * 4)] * 6) + " ;" + ",".join([" EF"] * 16),
)


def facts(network):
    """All that a network tells."""
    return (network.variables, network.nodes, network.links)


def some_network(chance):
    """Any network of [A2]."""
    variables = chance.randint(0, 6)
    count = chance.randint(1, 6)
    nodes = []
    for _ in range(count):
        row = []
        for _ in range(chance.randint(0, 4) if variables else 0):
            size = chance.randint(1, variables)
            row.append("".join(sorted(chance.sample("abcdef"[:variables], size))))
        nodes.append(row)
    links = []
    for _ in range(chance.choice((0, 1, 2, 5, 16)) if count > 1 else 0):
        links.append("".join(chance.sample("ABCDEF"[:count], 2)))
    return Network(variables, nodes, links)


def some_networks(count, seed):
    """Many networks, always the same ones for the same seed."""
    chance = random.Random(seed)
    return [some_network(chance) for _ in range(count)]

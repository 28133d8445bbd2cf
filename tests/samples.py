"""Networks for the tests: some by hand, many by chance from a fixed seed."""

import random

from allknow.networks import Network

# Written as [A7] says; the smallest ones, the greatest one, and ordinary ones.
TEXTS = (
    "0: ;",
    "6: ;",
    "1: a ;",
    "1: a, a, a, a ;",
    "0: | ; AB",
    "0: | | | | | ;",
    "1: a | ; AB",
    "1: | a ; BA",
    "2: a, b | | ; AB, AB, BC, AC",
    "2: a | b | ; AB, BC",
    "3: ab, bc | c | ; AB, BC, CA",
    "3: abc | abc, abc | c | ; AB, BA, AD, DA, CB",
    "2: a | b | | ; AC, BC, CD, DA, DB",
    "6: abcdef, a, f, bdf | | | | | abcdef ; AF, FA, AB, BC, CD, DE, EF",
    "0: | ;" + ",".join([" AB"] * 16),
    "6:" + " |".join([",".join([" abcdef"] * 4)] * 6) + " ;" + ",".join([" EF"] * 16),
)


def facts(network):
    """All that a network tells."""
    return (network.variables, network.nodes, network.links)


def some_network(chance):
    """Any network of [A2]."""
    variables = chance.randint(0, 6)
    count = chance.randint(1, 6)
    nodes = []
    for _ in range(count):
        row = []
        for _ in range(chance.randint(0, 4) if variables else 0):
            size = chance.randint(1, variables)
            row.append("".join(sorted(chance.sample("abcdef"[:variables], size))))
        nodes.append(row)
    links = []
    for _ in range(chance.choice((0, 1, 2, 5, 16)) if count > 1 else 0):
        links.append("".join(chance.sample("ABCDEF"[:count], 2)))
    return Network(variables, nodes, links)


def some_networks(count, seed):
    """Many networks, always the same ones for the same seed."""
    chance = random.Random(seed)
    return [some_network(chance) for _ in range(count)]


def small_network(chance, most_nodes, most_variables, most_messages, most_links):
    """A network with no more than so many of each."""
    variables = chance.randint(0, most_variables)
    count = chance.randint(1, most_nodes)
    nodes = []
    for _ in range(count):
        row = []
        for _ in range(chance.randint(0, most_messages) if variables else 0):
            size = chance.randint(1, variables)
            row.append("".join(sorted(chance.sample("abcdef"[:variables], size))))
        nodes.append(row)
    links = []
    for _ in range(chance.randint(0, most_links) if count > 1 else 0):
        links.append("".join(chance.sample("ABCDEF"[:count], 2)))
    return Network(variables, nodes, links)


# Networks in which no set is deficient: in the first ones just so, in the last ones with links to spare.
FEASIBLE = (
    "0: ;",
    "1: a ;",
    "6: abc, f | abc, f ;",
    "1: a | ; AB",
    "1: a | | ; AB, BC",
    "2: a | b ; AB, BA",
    "2: a, b | | ; AB, AB, BC, AC",
    "2: a, b | | ; AB, AC, BC, CB",
    "2: ab, ab | a | ; AB, BA, BC, AC",
    "3: a | b | c ; AB, BC, CA, AB, BC, CA",
    "3: ab, bc | ac, a | b ; BA, AB, AC, BC",
    "2: a, b | | | ; AB, AC, BD, CD, BC, CB",
    "1: a | | | | | ; AB, BC, CD, DE, EF",
    "1: a | | | | | ; AB, AC, AD, AE, AF, FE, ED, DC, CB, BA, BC, CD, DE, EF, FA, AB",
    "2: a | b | | ; AB, BA, AC, BC, CD, CD, DA",
)

# Networks in which some set is deficient.
DEFICIENT = (
    "1: a | ;",
    "1: a | ; BA",
    "2: a, b | ; AB",
    "2: a | b ; AB",
    "2: a | b | ; AB, BC",
    "2: a, b | | ; AB, BC, AC",
    "2: a, b | | ; AB, BA, BC, AC",
    "2: a, b | | | ; AB, AC, BC, CB",
    "1: a | | | | | ; AB, BC, CD, DE, FE",
    "2: a, b | | | ; AB, BC, CD, DB, BC, CD",
    "6: a, b, c, d | e, f | | | | ; AB, AB, AB, AB, BA, BA, BC, CD, DE, EF, FC, AF, BF, CF, DF, EF",
)

# As much of everything as the document allows: links to spare in the first one, just enough in the others,
# a deficient set in the last one.
GREATEST = (
    "6: a, b, c, d | e, f, abc, bcd | a, ab, abc, abcd | f, ef, def, cdef | a, c, e, ace | b, d, f, bdf ;"
    " AB, BC, CD, DE, EF, FA, AB, BC, CD, DE, EF, FA, AC, BD, CE, DF",
    "6: abc, acf, cd, bd | acd, ce, ef, ef | de, cef, de, b | b, b, ade, a | d, ef, adf, cd | cef, cef, af, f ;"
    " DB, AF, DA, DC, AF, FD, CE, DE, AB, AD, FA, BC, AB, BC, DF, AD",
    "6: bd, aef, ad, df | cf, e, ab, e | ae, cd, d, ae | be, cd, bd, be | aef, a, b, be | aef, a, d, a ;"
    " DA, AD, BC, FB, CB, BF, FA, DC, EF, FE, CD, AE, AB, CD, EF, AC",
    "6: cef, cd, bcd, af | acf, abc, ade, bf | ae, f, aef, acd | abc, ac, c, ab | bd, cd, ad, abe | b, aef, adf, b ;"
    " AD, BF, DC, BA, DB, ED, AE, FA, EC, BF, ED, DF, FC, EB, FE, EB",
    "6: cef, cd, bcd, af | acf, abc, ade, bf | ae, f, aef, acd | abc, ac, c, ab | bd, cd, ad, abe | b, aef, adf, b ;"
    " AD, BF, DC, BA, DB, ED, AE, FA, EC, BF, ED, DF, FC, EB, FE, BE",
)

"""Formulas as trees, told anew: a word for each operator, an index, True or False."""

import itertools

STRENGTHS = {"|": 1, "^": 2, "&": 3, "!": 4}
ALPHABET = "0123456789yn!&^|()"


def tree_of(text):
    """The tree of a text, by cutting it in two at the operator that binds least; None if it is no formula."""
    if text in ("y", "n"):
        return text == "y"
    if text.isdigit() and text.isascii():
        return int(text) if text == str(int(text)) and len(text) <= 2 else None
    for sign in "|^&":
        depth = 0
        for at, character in enumerate(text):
            depth += (character == "(") - (character == ")")
            if character == sign and depth == 0:
                first, second = tree_of(text[:at]), tree_of(text[at + 1:])
                return None if first is None or second is None else (sign, first, second)
    if text.startswith("!"):
        inner = tree_of(text[1:])
        return None if inner is None else ("!", inner)
    if text.startswith("(") and text.endswith(")") and len(text) > 1:
        return tree_of(text[1:-1])
    return None


def begins_one(text):
    """Whether a text begins a formula, by trying an operand, or none, and brackets behind it."""
    closing = [")" * count for count in range(text.count("(") + 1)]
    return any(tree_of(text + operand + behind) is not None for operand in ("", "0") for behind in closing)


def position_of(text):
    """Where a text that is no formula goes wrong."""
    return max(length for length in range(len(text) + 1) if begins_one(text[:length]))


def worth(tree, bits):
    """The value of a tree, going through it."""
    if isinstance(tree, bool):
        return tree
    if isinstance(tree, int):
        return bool(bits[tree]) if tree < len(bits) else False
    if tree[0] == "!":
        return not worth(tree[1], bits)
    first, second = worth(tree[1], bits), worth(tree[2], bits)
    if tree[0] == "&":
        return first and second
    return first != second if tree[0] == "^" else first or second


def product(first, second):
    """The product of two sums of products (sets of sets of indices), multiplied out, with what is there twice
    cancelled."""
    found = set()
    for one, other in itertools.product(first, second):
        found = found ^ {one | other}
    return found


def multiplied_out(tree):
    """A tree as a sum of products."""
    if isinstance(tree, bool):
        return {frozenset()} if tree else set()
    if isinstance(tree, int):
        return {frozenset((tree,))}
    if tree[0] == "!":
        return multiplied_out(tree[1]) ^ {frozenset()}
    first, second = multiplied_out(tree[1]), multiplied_out(tree[2])
    if tree[0] == "&":
        return product(first, second)
    return first ^ second if tree[0] == "^" else first ^ second ^ product(first, second)


def sum_text(products):
    """The text of a sum of products, as [F3] says."""
    rows = sorted(tuple(sorted(one)) for one in products)
    return "^".join("&".join(map(str, row)) or "y" for row in rows) or "n"


def text_of(tree, chance=None):
    """A text of a tree with the brackets that it needs, and perhaps more by chance."""
    if isinstance(tree, bool):
        text, strength = ("y" if tree else "n"), 5
    elif isinstance(tree, int):
        text, strength = str(tree), 5
    elif tree[0] == "!":
        text, strength = "!" + within(tree[1], 4, chance), 4
    else:
        strength = STRENGTHS[tree[0]]
        text = within(tree[1], strength, chance) + tree[0] + within(tree[2], strength, chance)
    return f"({text})" if chance and chance.random() < 0.15 else text


def within(tree, strength, chance):
    """The text of a part, in brackets if it binds less strongly than what stands beside it."""
    text = text_of(tree, chance)
    weaker = isinstance(tree, tuple) and STRENGTHS[tree[0]] < strength
    # What is in brackets as a whole already has them twice then, which is a formula, too.
    return f"({text})" if weaker else text


def some_tree(chance, depth, indices):
    """Any tree, with these indices."""
    if depth == 0 or chance.random() < 0.2:
        return chance.choice(tuple(indices) * 4 + (True, False))
    sign = chance.choice("!&^|")
    if sign == "!":
        return (sign, some_tree(chance, depth - 1, indices))
    return (sign, some_tree(chance, depth - 1, indices), some_tree(chance, depth - 1, indices))


def some_texts(count, chance, indices=(0, 1, 2, 3), depth=4):
    """Texts of formulas of at most 60 characters, by chance."""
    found = []
    while len(found) < count:
        text = text_of(some_tree(chance, depth, indices), chance)
        if len(text) <= 60:
            found.append(text)
    return found


def all_bits(count):
    """All rows of so many bits."""
    return list(itertools.product((False, True), repeat=count))

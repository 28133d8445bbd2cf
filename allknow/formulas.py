"""Formulas that compute a bit from bits (part F)."""

from allknow.errors import KnowError

LONGEST_FORMULA = 60
MOST_INPUTS = 6
DIGITS = "0123456789"
OPERAND_SIGNS = "yn!(0123456789"
OPERATORS = "|^&"

# How strongly each sign binds that can wait for its operands; a bracket holds back what waits ahead of it.
STRENGTHS = {"(": 0, "|": 1, "^": 2, "&": 3, "!": 4}


class BadFormula(KnowError):
    """A text is no formula: the position at which it goes wrong."""

    def __init__(self, position):
        self.position = position


class TooLong(KnowError):
    """A text has too many characters."""


class TooManyInputs(KnowError):
    """A formula has too many different indices for its normal text."""


class Formula:
    """A formula, which is kept as its operands and operators, each operator behind its operands."""

    def __init__(self, text):
        if len(text) > LONGEST_FORMULA:
            raise TooLong(f"more than {LONGEST_FORMULA} characters")
        self.text = text
        self._words = _operators_last(_words_of(text))

    def indices(self):
        """The ascending tuple of the different indices."""
        return tuple(sorted({int(word) for word in self._words if word[0] in DIGITS}))

    def value(self, bits):
        """The value for a row of bits, each True or False."""
        columns = {index: 1 if bit else 0 for index, bit in enumerate(bits)}
        return self.column(columns, 1) == 1

    def column(self, columns, full):
        """The values for several rows of bits at once, one binary digit for each row.

        The columns, in a dict, tell the bits at the indices so; the full one has the digit 1 for all rows.
        """
        values = []
        for word in self._words:
            if word == "!":
                values.append(values.pop() ^ full)
            elif word in OPERATORS:
                last = values.pop()
                values.append(_joined(word, values.pop(), last))
            elif word[0] in DIGITS:
                values.append(columns.get(int(word), 0))
            else:
                values.append(full if word == "y" else 0)
        return values[0]

    def normal(self):
        """The normal text."""
        indices = self.indices()
        if len(indices) > MOST_INPUTS:
            raise TooManyInputs(f"more than {MOST_INPUTS} different indices")
        full = (1 << (1 << len(indices))) - 1
        columns = {index: _digit_column(len(indices), place) for place, index in enumerate(indices)}
        products = []
        for chosen in _odd_products(self.column(columns, full), list(columns.values()), full):
            products.append([index for place, index in enumerate(indices) if (chosen >> place) & 1])
        return "^".join([_product_text(product) for product in sorted(products)]) if products else "n"


def normal_text(text):
    """The normal text of the formula with this text."""
    return Formula(text).normal()


def _words_of(text):
    """The signs and indices of a text that must be a formula."""
    words = []
    at = 0
    while at < len(text):
        if text[at] not in _allowed_next(words):
            raise BadFormula(at)
        word = _word_at(text, at)
        words.append(word)
        at += len(word)
    if _lacks_operand(words) or _open_brackets(words) > 0:
        raise BadFormula(len(text))
    return words


def _allowed_next(words):
    """The signs with which a formula that begins with these words can go on."""
    if _lacks_operand(words):
        return OPERAND_SIGNS
    return OPERATORS + ")" if _open_brackets(words) > 0 else OPERATORS


def _lacks_operand(words):
    """True if behind these words an operand has to come."""
    return not words or words[-1] in STRENGTHS


def _open_brackets(words):
    return words.count("(") - words.count(")")


def _word_at(text, at):
    """The sign or the index that begins at this place."""
    # Behind a 0 no digit belongs to the index, and of other digits there are two at most.
    if text[at] in DIGITS and text[at] != "0" and text[at + 1:at + 2] in list(DIGITS):
        return text[at:at + 2]
    return text[at]


def _operators_last(words):
    """The words of a formula without brackets, each operator behind its operands."""
    placed = []
    waiting = []
    for word in words:
        if word == "(" or word == "!":
            waiting.append(word)
        elif word == ")":
            placed.extend(_released(waiting, 1))
            waiting.pop()
        elif word in OPERATORS:
            placed.extend(_released(waiting, STRENGTHS[word]))
            waiting.append(word)
        else:
            placed.append(word)
    return placed + _released(waiting, 1)


def _released(waiting, strength):
    """Takes those off the end of the waiting ones that bind at least so strongly; returns them, the last one first."""
    released = []
    while waiting and STRENGTHS[waiting[-1]] >= strength:
        released.append(waiting.pop())
    return released


def _joined(sign, first, last):
    """What an operator makes of two columns."""
    if sign == "&":
        return first & last
    return first ^ last if sign == "^" else first | last


def _digit_column(count, place):
    """The column of one of so many bits, where the rows are numbered by the binary digits of all bits."""
    return sum([1 << row for row in range(1 << count) if (row >> place) & 1])


def _odd_products(values, columns, full):
    """The list of the products of which a column of values is the sum, each as the number of the row in which
    just its bits are 1."""
    for place, column in enumerate(columns):
        # The product with one bit more is there if the values with and without this bit differ.
        values = values ^ ((values & (full ^ column)) << (1 << place))
    return [row for row in range(full.bit_length()) if (values >> row) & 1]


def _product_text(product):
    return "&".join([str(index) for index in product]) if product else "y"

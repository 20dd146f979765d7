"""Numbers told by figures in a base: their length, where two part, how they are written."""

from bucketfall.errors import NoBase, NoNumber

LEAST_BASE = 2
MOST_BASE = 16
SIGNS = "0123456789abcdef"


def check_base(base):
    """Refuse a base that is none."""
    # The messages leave the value out: Python refuses to write very large integers.
    if base < LEAST_BASE or base > MOST_BASE:
        raise NoBase("a base is a whole number from 2 to 16")


def check_number(number):
    """Refuse a number below nought."""
    if number < 0:
        raise NoNumber("a number is not below nought")


def figures_of(number, base):
    """The figures of a number, the last one first; none for nought."""
    found = []
    while number > 0:
        number, figure = divmod(number, base)
        found.append(figure)
    return found


def length(number, base):
    """How many figures a number has in a base."""
    check_base(base)
    check_number(number)
    return len(figures_of(number, base))


def parting(one, other, base):
    """The greatest place at which the figures of two numbers differ; 0 for equal numbers."""
    check_base(base)
    check_number(one)
    check_number(other)
    place = 0
    # What is left after dropping some last figures is equal just when nothing ahead of them differs.
    while one != other:
        one = one // base
        other = other // base
        place += 1
    return place


def shown(number, base):
    """The text that writes a number in a base."""
    check_base(base)
    check_number(number)
    if number == 0:
        return SIGNS[0]
    signs = [SIGNS[figure] for figure in figures_of(number, base)]
    return "".join(reversed(signs))


def figure_of(sign, base):
    """The figure that a sign stands for in a base."""
    figure = SIGNS.find(sign)
    if figure < 0 or figure >= base:
        raise NoNumber("the text has a sign that is no figure of the base")
    return figure


def read(line, base):
    """The number that a text writes in a base."""
    # Python's own reading of integers is not used: it also takes blanks, capitals, signs ahead and "_".
    check_base(base)
    if line == "":
        raise NoNumber("the empty text writes no number")
    if len(line) > 1 and line[0] == SIGNS[0]:
        raise NoNumber("the text has a nought ahead of other signs")
    number = 0
    for sign in line:
        number = number * base + figure_of(sign, base)
    return number

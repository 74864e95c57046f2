"""Whole numbers of any size in figures, and read from figures.

Python refuses to write or read more than some thousand figures at once, and
what the program tells may have more; so both go by pieces of 64 figures.
"""


def figures_of(number):
    """The figures of a whole number from 0 on."""
    pieces = []
    while number >= 10 ** 64:
        number, low = divmod(number, 10 ** 64)
        pieces.append(str(low).zfill(64))
    pieces.append(str(number))
    return "".join(pieces[::-1])


def is_figures(text):
    """Whether a text is a number's figures, without noughts ahead."""
    if not text or not all("0" <= sign <= "9" for sign in text):
        return False
    return text == "0" or text[0] != "0"


def number_of(figures):
    """The whole number that has these figures."""
    head = len(figures) % 64
    number = int("0" + figures[:head])
    for at in range(head, len(figures), 64):
        number = number * 10 ** 64 + int(figures[at:at + 64])
    return number

"""Refusals of places, numbers and letters, wherever they are asked for."""

from rimprints.errors import NoLetter, NoNumber, NoPlace
from rimprints.kinds import is_mark, is_whole


def check_place(place):
    if not is_whole(place, 0):
        raise NoPlace("a place is a whole number from 0 on")


def check_number(number):
    if not is_whole(number, 0):
        raise NoNumber("a number is a whole number from 0 on")


def check_letter(letter):
    """Refuse what is neither a small letter nor None, which stands for any mark."""
    if letter is not None and not is_mark(letter):
        raise NoLetter("a letter is a small one")

"""Refusals of places, numbers, letters, seen pieces and lengths, wherever they are asked for."""

from rimprints.errors import NoLetter, NoNumber, NoPlace, NoSeen
from rimprints.kinds import is_mark, is_row, is_seen, is_whole


def check_place(place):
    if not is_whole(place, 0):
        raise NoPlace("a place is a whole number from 0 on")


def check_number(number):
    if not is_whole(number, 0):
        raise NoNumber("a number is a whole number from 0 on")


def check_letter(letter):
    """Refuse what is neither a small letter nor None, which stands for any mark."""
    if letter is not None and not is_mark(letter):
        raise NoLetter("a letter is a small one")


def check_seen(seen):
    if not is_seen(seen):
        raise NoSeen("a seen piece is a text of small letters, dots and question marks")


def check_pieces(pieces):
    """Refuse what are no seen pieces, one at least."""
    if not is_row(pieces) or len(pieces) == 0:
        raise NoSeen("nothing was seen")
    for seen in pieces:
        check_seen(seen)


def check_length(length, longest=40):
    """Refuse a length that is sought, or a most of lengths, that is no whole number from 1 to the longest."""
    if not is_whole(length, 1) or length > longest:
        raise NoNumber("a length is a whole number from 1 on, and not so great")

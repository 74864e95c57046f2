"""How many places have a letter, and which is the so-manieth of them."""

from rimprints.checks import check_letter, check_number, check_place
from rimprints.laid import count_ahead, laid_from, place_of


def how_many(press, letter, place):
    """How many places ahead of a place have a letter, or any mark where it is None."""
    laid = laid_from(press)
    check_letter(letter)
    check_place(place)
    return count_ahead(laid, letter, place)


def nth(press, letter, number):
    """The so-manieth place, from 0 on, that has a letter, or any mark where it is None; None where there is none."""
    laid = laid_from(press)
    check_letter(letter)
    check_number(number)
    return place_of(laid, letter, number)

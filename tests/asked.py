"""All that can be asked of a press, each by a call that takes the press alone."""

from rimprints.apart import first_apart, many_apart, nth_apart, order_matters, turning_of
from rimprints.counts import how_many, nth
from rimprints.marks import mark_at, piece
from rimprints.presses import parts_in, press_of, reckoned
from rimprints.rounds import plain, round_of
from rimprints.texts import press_text
from tests.samples import AB, HUGE

# Those that are told of any press, however late it comes round.
OF_ANY = (
    press_of,
    parts_in,
    reckoned,
    press_text,
    lambda press: mark_at(press, 3),
    lambda press: mark_at(press, HUGE),
    lambda press: piece(press, 0, 60),
    lambda press: piece(press, HUGE, 2000),
)
OF_SHORT = (
    round_of,
    plain,
    lambda press: how_many(press, "a", HUGE),
    lambda press: how_many(press, None, 17),
    lambda press: nth(press, "a", 5),
    lambda press: nth(press, None, HUGE),
    lambda press: first_apart(press, AB),
    lambda press: first_apart(AB, press),
    lambda press: many_apart(press, AB, HUGE),
    lambda press: many_apart(AB, press, 19),
    lambda press: nth_apart(press, AB, HUGE),
    lambda press: nth_apart(AB, press, 3),
    lambda press: turning_of(press, AB),
    lambda press: turning_of(AB, press),
    lambda press: turning_of(press, press),
    lambda press: order_matters(press, AB),
    lambda press: order_matters(AB, press),
)
ALL = OF_ANY + OF_SHORT


def all_told(press):
    return [call(press) for call in ALL]

"""What several tests need: a station, all that a yard tells, and a case that asks for refusals."""

import unittest

from signalbox.driving import draw, enter, go
from signalbox.errors import NotThere
from signalbox.leaving import way_out
from signalbox.yards import Yard, set_route

#            2
#  0      /-----\      5
# ---- 1 <       > 4 ----
#         \-----/
#            3
STATION = (
    ("plain", 0, 1),
    ("points", 1, 2, 3),
    ("plain", 2, 4),
    ("plain", 3, 5),
    ("points", 6, 4, 5),
    ("plain", 6, 7),
)
# 0 and 3 stand at borders; 1 and 2 let out to the right, 4 and 5 to the left.
STATION_SIGNALS = ((0, 0), (4, 4), (5, 4), (7, 5), (2, 1), (3, 1))
STATION_WAYS = [
    (0, [(0, 0, 1), (1, 1, 2), (2, 2, 4)]),
    (0, [(0, 0, 1), (1, 1, 3), (3, 3, 5)]),
    (1, [(4, 4, 6), (5, 6, 7)]),
    (2, [(4, 5, 6), (5, 6, 7)]),
    (3, [(5, 7, 6), (4, 6, 4), (2, 4, 2)]),
    (3, [(5, 7, 6), (4, 6, 5), (3, 5, 3)]),
    (4, [(1, 2, 1), (0, 1, 0)]),
    (5, [(1, 3, 1), (0, 1, 0)]),
]

NAMES = (0, -7, 5, 8, 999_999_999_999_999)
# Numbers that no list of a yard reaches, below 0 and above.
NOWHERE = (-1, -2, -6, -8, -999_999_999_999_999, 17_000, 999_999_999_999_999)


def station(wait=2):
    return Yard(list(STATION), list(STATION_SIGNALS), wait)


def answer(deed, *args):
    """What is answered, or the word where it is not there."""
    try:
        return deed(*args)
    except NotThere:
        return "not there"


def is_there(deed, *args):
    try:
        deed(*args)
    except NotThere:
        return False
    return True


def told(yard):
    """All that a yard tells, as far as the names above go."""
    pieces = [number for number in range(20) if is_there(yard.train_in, number)]
    signals = [number for number in range(20) if is_there(yard.is_green, number)]
    return {
        "ways": yard.ways(),
        "time": yard.time(),
        "locks": [yard.lock_of(piece) for piece in pieces],
        "trains": [yard.train_in(piece) for piece in pieces],
        "lies": [answer(yard.lies, piece) for piece in pieces],
        "greens": [yard.is_green(signal) for signal in signals],
        "where": {name: answer(yard.where, name) for name in NAMES},
        "out": {name: answer(way_out, yard, name) for name in NAMES},
    }


def locks(yard):
    return told(yard)["locks"]


def greens(yard):
    return [number for number, green in enumerate(told(yard)["greens"]) if green]


def draw_up(yard, name):
    """Into the head's piece alone."""
    while len(yard.where(name)) > 1:
        draw(yard, name)


def drive(yard, name, route):
    """Sets a route at whose signal the train stands, goes to its end and draws up there."""
    set_route(yard, route)
    for step in yard.ways()[route][1]:
        go(yard, name)
    draw_up(yard, name)


def bring(yard, name, route):
    """A new train by a route from a border, gone to its end and drawn up there."""
    set_route(yard, route)
    signal, way = yard.ways()[route]
    enter(yard, name, signal)
    for step in way[1:]:
        go(yard, name)
    draw_up(yard, name)


class YardCase(unittest.TestCase):
    def refused(self, error, yard, deed, *args):
        """This very error, and all that the yard tells is as before."""
        before = told(yard)
        with self.assertRaises(error) as caught:
            deed(*args)
        self.assertIs(type(caught.exception), error, args)
        self.assertEqual(told(yard), before)

    def done(self, deed, *args):
        self.assertIsNone(deed(*args))

"""[0.2]: many deeds in many orders; behind each, what the document promises of the whole holds.

Besides, each deed and all that the yard then tells is compared with a second telling of the document:
there a piece is free, locked or taken, a signal red, green or falling, and the ticks are counted down.
"""

import copy
import random
import unittest

from signalbox.driving import draw, enter, go, turn
from signalbox.errors import BoxError
from signalbox.leaving import way_out
from signalbox.routes import routes
from signalbox.yards import Yard, cancel, set_route, throw, tick
from tests.helper import STATION, STATION_SIGNALS

NAMES = (0, 5, -7)


def all_places(pieces):
    return [(joint, number) for number, piece in enumerate(pieces) for joint in piece[1:]]


RING = [("plain", 9, 0), ("points", 1, 3, 0), ("plain", 1, 2), ("plain", 2, 3)]
BALLOON = [("plain", 0, 1), ("points", 1, 2, 3), ("plain", 2, 4), ("plain", 4, 3)]
FORK = [
    ("plain", 0, 1), ("points", 1, 2, 3), ("plain", 2, 4), ("plain", 4, 5), ("plain", 3, 6), ("plain", 6, 7),
]
# Points that have both s and b in common, between points that have t in common.
BACK_TO_BACK = [
    ("plain", 0, 1), ("points", 1, 2, 3), ("points", 4, 2, 3), ("points", 4, 5, 6), ("plain", 5, 7), ("plain", 6, 8),
]
# A ring with a border on either side and points that face one another on it.
ROUNDABOUT = [
    ("points", 1, 2, 10), ("plain", 2, 3), ("points", 4, 3, 11), ("plain", 4, 5), ("plain", 5, 1),
    ("plain", 10, 20), ("plain", 11, 21),
]
DOG_BONE = [
    ("plain", 2, 3), ("points", 1, 2, 3), ("plain", 1, 4), ("points", 4, 5, 6), ("points", 7, 5, 8),
    ("plain", 6, 9), ("plain", 7, 10), ("plain", 8, 11),
]
LINE = [("plain", joint, joint + 1) for joint in range(4)]

YARDS = {
    "station": (list(STATION), list(STATION_SIGNALS)),
    "station with a signal everywhere": (list(STATION), all_places(STATION)[::-1]),
    "line": (LINE, all_places(LINE)),
    "line with few signals": (LINE, [(4, 3), (2, 2), (0, 0)]),
    "ring": (RING, [(9, 0), (2, 3), (1, 1)]),
    "ring of two": ([("plain", 0, 1), ("plain", 1, 0)], [(0, 0), (1, 0), (1, 1)]),
    "balloon": (BALLOON, all_places(BALLOON)),
    "balloon with few signals": (BALLOON, [(3, 1), (0, 0), (2, 2), (4, 2)]),
    "balloon with a way back over its points": (BALLOON, [(0, 0), (1, 1), (2, 2)]),
    "fork": (FORK, [(0, 0), (3, 4), (2, 2), (6, 5), (1, 1), (4, 3), (1, 0), (7, 5)]),
    "back to back": (BACK_TO_BACK, [(0, 0), (1, 1), (4, 3), (4, 2), (7, 4), (8, 5), (1, 0), (2, 2), (3, 1)]),
    "roundabout": (ROUNDABOUT, [(20, 5), (21, 6), (10, 0), (11, 2), (1, 0), (3, 2), (5, 4), (5, 3), (2, 0), (4, 2)]),
    "dog bone": (DOG_BONE, [(11, 7), (10, 6), (9, 5), (4, 3), (4, 2), (1, 1), (2, 1), (3, 1), (5, 4), (7, 6), (8, 7)]),
    "points alone": ([("points", 1, 2, 3)], [(1, 0), (2, 0), (3, 0)]),
}
WAITS = (0, 1, 3)


class Refusal(Exception):
    pass


class Model:
    def __init__(self, pieces, signals, wait):
        self.pieces, self.signals, self.wait = pieces, signals, wait
        self.routes = routes(pieces, signals)
        self.next_pieces = {}
        for number, piece in enumerate(pieces):
            for joint in piece[1:]:
                others = [n for n, other in enumerate(pieces) if n != number and joint in other[1:]]
                self.next_pieces[number, joint] = others[0] if others else None
        self.ticks = 0
        self.cells = {number: ("free",) for number in range(len(pieces))}
        self.lie = {number: "straight" for number, piece in enumerate(pieces) if piece[0] == "points"}
        self.aspects = {number: ("red",) for number in range(len(signals))}
        self.trains = {}

    def beyond(self, piece, joint):
        return self.next_pieces[piece, joint]

    def border(self, signal):
        joint, piece = self.signals[signal]
        return self.beyond(piece, joint) is None

    def need(self, fine, word):
        if not fine:
            raise Refusal(word)

    def signal_before(self, name):
        """The signal that the train would pass next, or None."""
        train = self.trains[name]
        piece, come, leave = train["path"][-1]
        place = (leave, self.beyond(piece, leave))
        if train["ahead"] or train["out"] or place not in self.signals:
            return None
        return self.signals.index(place)

    def free(self, way):
        for piece, come, leave in way:
            self.cells[piece] = ("free",)

    def set_route(self, route):
        self.need(route in range(len(self.routes)), "NotThere")
        signal, way = self.routes[route]
        self.need(all(self.cells[step[0]] == ("free",) for step in way), "Held")
        for piece, come, leave in way:
            self.cells[piece] = ("locked", route)
            if piece in self.lie:
                t, s, b = self.pieces[piece][1:]
                self.lie[piece] = "straight" if {come, leave} == {t, s} else "branch"
        self.aspects[signal] = ("green", route)

    def cancel(self, route):
        self.need(route in range(len(self.routes)), "NotThere")
        signal, way = self.routes[route]
        self.need(self.aspects[signal] == ("green", route), "NotThere")
        near = [name for name in self.trains if self.signal_before(name) == signal]
        if (near or self.border(signal)) and self.wait:
            self.aspects[signal] = ("falls", route, self.wait, near)
        else:
            self.aspects[signal] = ("red",)
            self.free(way)

    def tick(self):
        self.ticks += 1
        for signal, aspect in self.aspects.items():
            if aspect[0] == "falls":
                word, route, left, near = aspect
                self.aspects[signal] = ("falls", route, left - 1, near)
                if left == 1:
                    self.aspects[signal] = ("red",)
                    self.free(self.routes[route][1])

    def throw(self, piece):
        self.need(piece in self.lie, "NotThere")
        self.need(self.cells[piece] == ("free",), "Held")
        self.lie[piece] = {"straight": "branch", "branch": "straight"}[self.lie[piece]]

    def step_on(self, name):
        train = self.trains[name]
        step = train["ahead"].pop(0)
        self.cells[step[0]] = ("taken", name)
        train["path"].append(step)

    def pass_signal(self, name, signal):
        aspect = self.aspects[signal]
        if aspect[0] == "falls":
            self.need(self.border(signal) or name in aspect[3], "Red")
        else:
            self.need(aspect[0] == "green", "Red")
        self.aspects[signal] = ("red",)
        self.trains.setdefault(name, {"path": [], "out": False})
        self.trains[name]["ahead"] = list(self.routes[aspect[1]][1])
        self.step_on(name)

    def enter(self, name, signal):
        self.need(signal in self.aspects and self.border(signal), "NotThere")
        self.need(name not in self.trains, "Held")
        self.pass_signal(name, signal)

    def go(self, name):
        self.need(name in self.trains, "NotThere")
        train = self.trains[name]
        self.need(not train["out"], "Red")
        piece, come, leave = train["path"][-1]
        if train["ahead"]:
            self.step_on(name)
        elif self.beyond(piece, leave) is None:
            train["out"] = True
        else:
            signal = self.signal_before(name)
            self.need(signal is not None, "Red")
            self.pass_signal(name, signal)

    def draw(self, name):
        self.need(name in self.trains, "NotThere")
        train = self.trains[name]
        self.need(train["out"] or len(train["path"]) > 1, "Held")
        self.free([train["path"].pop(0)])
        if not train["path"]:
            self.trains.pop(name)

    def turn(self, name):
        self.need(name in self.trains, "NotThere")
        train = self.trains[name]
        self.need(not train["out"], "Red")
        self.free(train["ahead"])
        train["ahead"] = []
        train["path"] = [(piece, leave, come) for piece, come, leave in train["path"]][::-1]
        for aspect in self.aspects.values():
            if aspect[0] == "falls" and name in aspect[3]:
                aspect[3].remove(name)

    def state(self):
        """All but the ticks that were."""
        return repr((self.cells, self.lie, self.aspects, sorted(self.trains.items())))

    def told(self):
        cells = [self.cells[number] for number in range(len(self.pieces))]
        return {
            "ways": self.routes,
            "time": self.ticks,
            "locks": [cell[1] if cell[0] == "locked" else None for cell in cells],
            "trains": [cell[1] if cell[0] == "taken" else None for cell in cells],
            "lies": dict(self.lie),
            "greens": [self.aspects[signal][0] == "green" for signal in range(len(self.signals))],
            "where": {name: [step[0] for step in train["path"]][::-1] for name, train in self.trains.items()},
            "out": {name: self.way_out(name) for name in self.trains},
        }

    def ends_at_border(self, step):
        return self.beyond(step[0], step[2]) is None

    def way_out(self, name):
        """By how many routes it is out from each end, told from the border back; then the least numbers."""
        train = self.trains[name]
        ahead = [step[0] for step in train["ahead"]]
        passable = [
            number for number, cell in self.cells.items()
            if cell in (("free",), ("taken", name)) or cell[0] == "locked" and number in ahead
        ]
        own = (train["path"] + train["ahead"])[-1]
        if self.ends_at_border(own):
            return []

        ends = {own: True, **{way[-1]: True for signal, way in self.routes}}
        clear = [
            (route, way[0][:2], way[-1], [step[0] for step in way])
            for route, (signal, way) in enumerate(self.routes) if all(step[0] in passable for step in way)
        ]
        follow = {
            end: [
                (route, last) for route, first, last, pieces in clear
                if first == (self.beyond(end[0], end[2]), end[2]) and end[0] not in pieces
            ]
            for end in ends
        }
        far = {end: 0 for end in ends if self.ends_at_border(end)}
        for count in range(1, len(ends) + 1):
            reached = [end for end in ends if end not in far and any(last in far for route, last in follow[end])]
            far.update((end, count) for end in reached)
        if own not in far:
            return None
        out, end = [], own
        while far[end]:
            route, end = min((route, last) for route, last in follow[end] if far.get(last) == far[end] - 1)
            out.append(route)
        return out


def told(yard, model):
    """The same of the program, for the numbers and names that the model has."""
    pieces = range(len(model.pieces))
    return {
        "ways": yard.ways(),
        "time": yard.time(),
        "locks": [yard.lock_of(piece) for piece in pieces],
        "trains": [yard.train_in(piece) for piece in pieces],
        "lies": {piece: yard.lies(piece) for piece in model.lie},
        "greens": [yard.is_green(signal) for signal in range(len(model.signals))],
        "where": {name: yard.where(name) for name in model.trains},
        "out": {name: way_out(yard, name) for name in model.trains},
    }


DEEDS = {
    "set_route": set_route, "cancel": cancel, "tick": tick, "throw": throw,
    "enter": enter, "go": go, "draw": draw, "turn": turn,
}


BY_NUMBER = ("tick", "set_route", "cancel", "throw")


def refusal(deed, *args):
    """The refusal's name, or None where it is done."""
    try:
        answered = deed(*args)
    except BoxError as error:
        return type(error).__name__
    except Refusal as word:
        return str(word)
    assert answered is None
    return None


def all_deeds(pieces, signals):
    """Every deed with every number from just below to just above those that are there."""
    deeds = [("tick",)]
    for route in range(-1, len(routes(pieces, signals)) + 1):
        deeds += [("set_route", route), ("cancel", route)]
    deeds += [("throw", piece) for piece in range(-1, len(pieces) + 1)]
    for name in NAMES:
        deeds += [("enter", name, signal) for signal in range(-1, len(signals) + 1)]
        deeds += [("go", name), ("draw", name), ("turn", name)]
    return deeds


class Watch:
    """Looks at what the yard tells alone, and at which routes its trains have passed into."""

    def __init__(self, case, yard, model):
        self.case, self.yard, self.model = case, yard, model
        self.ways = yard.ways()
        self.before = told(yard, model)
        self.rest = {}

    def look(self, deed, refused):
        now = told(self.yard, self.model)
        if refused:
            self.case.assertEqual(now, self.before)
        else:
            self.points_moved_only_where_free(now)
            self.note_passed_signals(deed, now)
        self.no_piece_has_two_trains(now)
        self.trains_can_go_on(now)
        self.before = now

    def points_moved_only_where_free(self, now):
        for piece, lie in now["lies"].items():
            if lie != self.before["lies"][piece]:
                self.case.assertIsNone(self.before["locks"][piece])
                self.case.assertIsNone(self.before["trains"][piece])

    def note_passed_signals(self, deed, now):
        if deed[0] == "turn":
            self.rest[deed[1]] = []
        if deed[0] in ("enter", "go"):
            name = deed[1]
            head = now["where"][name][0]
            if self.rest.get(name):
                self.case.assertEqual(self.rest[name].pop(0)[0], head)
            elif now["where"][name] != self.before["where"].get(name):
                route = self.before["locks"][head]
                self.case.assertIsNotNone(route)
                self.case.assertEqual(self.ways[route][1][0][0], head)
                self.rest[name] = self.ways[route][1][1:]

    def no_piece_has_two_trains(self, now):
        taken = [piece for pieces in now["where"].values() for piece in pieces]
        self.case.assertEqual(len(taken), len(set(taken)))
        for name, pieces in now["where"].items():
            self.case.assertEqual(sorted(pieces), [p for p, other in enumerate(now["trains"]) if other == name])
        for piece in taken:
            self.case.assertIsNone(now["locks"][piece])

    def trains_can_go_on(self, now):
        for name in now["where"]:
            if self.rest.get(name):
                yard = copy.deepcopy(self.yard)
                for step in self.rest[name]:
                    if step[0] in now["lies"]:
                        branch = self.model.pieces[step[0]][3] in step[1:]
                        self.case.assertEqual(yard.lies(step[0]), "branch" if branch else "straight")
                    go(yard, name)
                    self.case.assertEqual(yard.where(name)[0], step[0])

    def ways_out_lead_out(self):
        for name, out in self.before["out"].items():
            if out is not None:
                self.drive_out(copy.deepcopy(self.yard), name, out)

    def drive_out(self, yard, name, out):
        for step in self.rest.get(name, []):
            go(yard, name)
        for route in out:
            while len(yard.where(name)) > 1:
                draw(yard, name)
            set_route(yard, route)
            for step in self.ways[route][1]:
                go(yard, name)
        # A train that was out already has nothing to go on to.
        self.case.assertIn(refusal(go, yard, name), (None, "Red"))
        for piece in yard.where(name):
            draw(yard, name)
        self.case.assertEqual(refusal(draw, yard, name), "NotThere")


class TestManyDeeds(unittest.TestCase):
    def pair(self, place, wait):
        pieces, signals = YARDS[place]
        return Yard(list(pieces), list(signals), wait), Model(pieces, signals, wait)

    def do(self, yard, model, deed):
        expected = refusal(getattr(model, deed[0]), *deed[1:])
        got = refusal(DEEDS[deed[0]], yard, *deed[1:])
        self.assertEqual(got, expected, deed)
        return got

    def choose(self, dice, deeds):
        kinds = ["set_route"] * 3 + ["go"] * 5 + ["draw"] * 3 + ["enter"] * 2 + ["cancel", "tick", "throw", "turn"]
        kind = dice.choice(kinds)
        return dice.choice([deed for deed in deeds if deed[0] == kind])

    def many(self, place, wait, seed, count):
        dice = random.Random(f"{place} {wait} {seed}")
        yard, model = self.pair(place, wait)
        deeds = all_deeds(*YARDS[place])
        watch = Watch(self, yard, model)
        seen = set()
        for number in range(count):
            deed = self.choose(dice, deeds)
            refused = self.do(yard, model, deed)
            seen.add((deed[0], refused))
            watch.look(deed, refused)
            self.assertEqual(watch.before, model.told(), deed)
            if number % 5 == 0:
                watch.ways_out_lead_out()
        return seen

    def test_in_every_yard_with_every_wait(self):
        seen = set()
        for place in YARDS:
            for wait in WAITS:
                for seed in range(4):
                    with self.subTest(place=place, wait=wait, seed=seed):
                        seen |= self.many(place, wait, seed, 250)
        # Each deed was done, and refused in each way that the document names for it.
        refusals = {
            "set_route": ["NotThere", "Held"], "cancel": ["NotThere"], "tick": [], "throw": ["NotThere", "Held"],
            "enter": ["NotThere", "Held", "Red"], "go": ["NotThere", "Red"], "draw": ["NotThere", "Held"],
            "turn": ["NotThere", "Red"],
        }
        self.assertEqual(seen, {(kind, word) for kind in refusals for word in refusals[kind] + [None]})


class TestEveryOrder(unittest.TestCase):
    """Small yards, in every state that any order of deeds brings about."""

    def explore(self, pieces, signals, wait, names):
        deeds = [deed for deed in all_deeds(pieces, signals) if deed[0] in BY_NUMBER or deed[1] in names]
        first = (Yard(pieces, signals, wait), Model(pieces, signals, wait))
        states = {first[1].state(): first}
        to_do = list(states)
        while to_do:
            yard, model = states[to_do.pop()]
            for deed in deeds:
                after_yard, after_model = copy.deepcopy(yard), copy.deepcopy(model)
                expected = refusal(getattr(after_model, deed[0]), *deed[1:])
                self.assertEqual(refusal(DEEDS[deed[0]], after_yard, *deed[1:]), expected, (model.state(), deed))
                self.assertEqual(told(after_yard, after_model), after_model.told(), (model.state(), deed))
                state = after_model.state()
                if state not in states:
                    states[state] = (after_yard, after_model)
                    to_do.append(state)
        return len(states)

    def explored(self, least, pieces, signals, wait, names):
        self.assertGreater(self.explore(pieces, signals, wait, names), least)

    def test_plain_pieces(self):
        one, two, three = ([("plain", joint, joint + 1) for joint in range(count)] for count in (1, 2, 3))
        self.explored(10, one, [(0, 0), (1, 0)], 2, (0, 5))
        self.explored(50, two, [(0, 0), (1, 1), (1, 0)], 3, (0,))
        self.explored(300, three, [(0, 0), (1, 1), (2, 2)], 2, (0, -7))

    def test_points_back_to_back(self):
        self.explored(100, [("points", 0, 1, 2), ("points", 3, 1, 2)], [(0, 0), (1, 1), (3, 1)], 1, (0, 5))
        self.explored(100, [("points", 0, 1, 2), ("points", 0, 3, 4)], [(1, 0), (0, 1), (4, 1)], 1, (0,))

    def test_loops(self):
        balloon = [("plain", 0, 1), ("points", 1, 2, 3), ("plain", 2, 3)]
        self.explored(200, balloon, [(0, 0), (1, 1), (2, 2), (3, 1)], 2, (5,))
        ring = [("points", 0, 1, 2), ("plain", 1, 3), ("plain", 2, 3)]
        self.explored(200, ring, [(0, 0), (1, 1), (3, 2), (3, 1), (2, 0)], 1, (5,))


if __name__ == "__main__":
    unittest.main()

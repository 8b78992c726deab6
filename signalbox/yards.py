"""The box: a yard as it stands, its routes set and taken back, its points thrown, its ticks."""

from signalbox.errors import Held, NotThere
from signalbox.layouts import is_border, is_points, lie_for, piece_beyond
from signalbox.routes import routes
from signalbox.trains import pieces_under


# The dicts hold only what is so: a piece that is not locked, a signal that is not green, a route
# that does not fall are not in them.
class Yard:
    def __init__(self, pieces, signals, wait):
        self.found = routes(pieces, signals)
        self.pieces = list(pieces)
        self.signals = list(signals)
        self.wait = wait
        self.ticks = 0
        self.locks = {}
        self.lying = ["straight" for piece in pieces]
        self.greens = {}
        self.falls = {}
        self.trains = {}

    def ways(self):
        return [(signal, list(way)) for signal, way in self.found]

    def time(self):
        return self.ticks

    def lock_of(self, piece):
        check_piece(self, piece)
        return self.locks.get(piece)

    def train_in(self, piece):
        check_piece(self, piece)
        for name, train in self.trains.items():
            if piece in pieces_under(train):
                return name
        return None

    def lies(self, piece):
        check_points(self, piece)
        return self.lying[piece]

    def is_green(self, signal):
        check_signal(self, signal)
        return signal in self.greens

    def where(self, name):
        return pieces_under(train_called(self, name))


# A route that falls: the tick from which its pieces are free, and the name of the train that was
# near as it was taken back, or None where there was none or it has turned since.
class Fall:
    def __init__(self, until, near):
        self.until = until
        self.near = near


def set_route(yard, route):
    check_route(yard, route)
    way = way_of(yard, route)
    for step in way:
        check_not_held(yard, step[0])
    for step in way:
        yard.locks[step[0]] = route
        yard.lying[step[0]] = lie_for(yard.pieces[step[0]], step)
    yard.greens[signal_of(yard, route)] = route


def cancel(yard, route):
    check_route(yard, route)
    signal = signal_of(yard, route)
    if yard.greens.get(signal) != route:
        raise NotThere(f"no signal is green for route {route}")
    yard.greens.pop(signal)
    near = train_near(yard, signal)
    if yard.wait > 0 and (near is not None or is_at_border(yard, signal)):
        yard.falls[route] = Fall(yard.ticks + yard.wait, near)
    else:
        unlock(yard, way_of(yard, route))


def tick(yard):
    yard.ticks = yard.ticks + 1
    for route in list(yard.falls):
        if yard.falls[route].until == yard.ticks:
            yard.falls.pop(route)
            unlock(yard, way_of(yard, route))


def throw(yard, piece):
    check_points(yard, piece)
    check_not_held(yard, piece)
    yard.lying[piece] = "branch" if yard.lying[piece] == "straight" else "straight"


def unlock(yard, steps):
    for step in steps:
        yard.locks.pop(step[0])


def signal_of(yard, route):
    return yard.found[route][0]


def way_of(yard, route):
    return yard.found[route][1]


def is_at_border(yard, signal):
    place = yard.signals[signal]
    return is_border(yard.pieces, place[1], place[0])


# None where no signal stands for the train, and at a border, where it would go out.
def signal_ahead(yard, train):
    head = train.steps[0]
    place = (head[2], piece_beyond(yard.pieces, head[0], head[2]))
    if place in yard.signals:
        return yard.signals.index(place)
    return None


# One at most: all that come to a signal come out of the same piece.
def train_near(yard, signal):
    for name, train in yard.trains.items():
        if signal_ahead(yard, train) == signal:
            return name
    return None


def train_called(yard, name):
    if name not in yard.trains:
        raise NotThere(f"train {name} is not there")
    return yard.trains[name]


def check_route(yard, route):
    if not is_number_of(yard.found, route):
        raise NotThere(f"route {route} is not there")


def check_piece(yard, piece):
    if not is_number_of(yard.pieces, piece):
        raise NotThere(f"piece {piece} is not there")


def check_points(yard, piece):
    check_piece(yard, piece)
    if not is_points(yard.pieces[piece]):
        raise NotThere(f"piece {piece} is no points")


def check_signal(yard, signal):
    if not is_number_of(yard.signals, signal):
        raise NotThere(f"signal {signal} is not there")


# Asked ahead of any index: a number below 0 would find one from the end.
def is_number_of(things, number):
    return number >= 0 and number < len(things)


def check_not_held(yard, piece):
    if piece in yard.locks:
        raise Held(f"piece {piece} is locked")
    if yard.train_in(piece) is not None:
        raise Held(f"piece {piece} has a train in it")

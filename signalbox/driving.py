"""Trains that come in, go on, draw up, turn and go out, as the signals let them."""

from signalbox.errors import Held, NotThere, Red
from signalbox.layouts import is_border
from signalbox.trains import Train, turned
from signalbox.yards import check_signal, is_at_border, signal_ahead, signal_of, train_called, unlock, way_of


def enter(yard, name, signal):
    check_signal(yard, signal)
    if not is_at_border(yard, signal):
        raise NotThere(f"signal {signal} stands at no border")
    if name in yard.trains:
        raise Held(f"train {name} is there already")
    route = route_past(yard, name, signal)
    train = Train()
    pass_signal(yard, train, route)
    yard.trains[name] = train


def go(yard, name):
    train = train_called(yard, name)
    head = train.steps[0]
    if train.is_out:
        raise Red(f"train {name} is out already")
    if train.ahead:
        come_on(yard, train)
    elif is_border(yard.pieces, head[0], head[2]):
        train.is_out = True
    else:
        pass_signal(yard, train, route_past(yard, name, signal_ahead(yard, train)))


def draw(yard, name):
    train = train_called(yard, name)
    if len(train.steps) == 1 and not train.is_out:
        raise Held(f"train {name} is in one piece alone")
    train.steps.pop()
    if len(train.steps) == 0:
        yard.trains.pop(name)


def turn(yard, name):
    train = train_called(yard, name)
    if train.is_out:
        raise Red(f"train {name} is out")
    unlock(yard, train.ahead)
    train.ahead = []
    train.steps = [turned(step) for step in reversed(train.steps)]
    for fall in yard.falls.values():
        if fall.near == name:
            fall.near = None


# The route by which the train may pass the signal. A signal never has two that are green or
# fall: they would have their first piece in common.
def route_past(yard, name, signal):
    if signal is None:
        raise Red(f"no signal stands for train {name}")
    if signal in yard.greens:
        return yard.greens[signal]
    for route, fall in yard.falls.items():
        if signal_of(yard, route) == signal and (fall.near == name or is_at_border(yard, signal)):
            return route
    raise Red(f"train {name} may not pass signal {signal}")


def pass_signal(yard, train, route):
    yard.greens.pop(signal_of(yard, route), None)
    yard.falls.pop(route, None)
    train.ahead = list(way_of(yard, route))
    come_on(yard, train)


def come_on(yard, train):
    step = train.ahead.pop(0)
    unlock(yard, [step])
    train.steps.insert(0, step)

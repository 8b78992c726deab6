"""The way out of a train: the fewest routes that lead it to a border, if nothing else moves."""

from signalbox.layouts import is_border, piece_beyond
from signalbox.trains import last_step
from signalbox.yards import train_called, way_of


def way_out(yard, name):
    train = train_called(yard, name)
    last = last_step(train)
    if is_border(yard.pieces, last[0], last[2]):
        return []
    shut = shut_pieces(yard, name, [step[0] for step in train.ahead])
    return shortest(yard, last, [route for route in range(len(yard.found)) if is_clear(yard, route, shut)])


# The train's own pieces are not shut: it draws up behind itself as it goes.
def shut_pieces(yard, name, ahead):
    shut = []
    for piece in range(len(yard.pieces)):
        locked = yard.lock_of(piece) is not None and piece not in ahead
        if locked or yard.train_in(piece) not in (None, name):
            shut.append(piece)
    return shut


def is_clear(yard, route, pieces):
    return len([step for step in way_of(yard, route) if step[0] in pieces]) == 0


# Lists of the same length are walked in the order of their numbers, so that the first one that
# comes to an end is also the lesser one; a later one to the same end need not be gone on with.
def shortest(yard, last, usable):
    reached = [(last, [])]
    seen = {(last[0], last[2]): True}
    while reached:
        further = []
        for end, taken in reached:
            for route in routes_on(yard, end, usable):
                step = way_of(yard, route)[-1]
                if is_border(yard.pieces, step[0], step[2]):
                    return taken + [route]
                if (step[0], step[2]) not in seen:
                    seen[(step[0], step[2])] = True
                    further.append((step, taken + [route]))
        reached = further
    return None


# None of them comes into the piece of the end itself: a train cannot draw up out of its last piece.
def routes_on(yard, end, usable):
    beyond = piece_beyond(yard.pieces, end[0], end[2])
    found = []
    for route in usable:
        first = way_of(yard, route)[0]
        if (first[0], first[1]) == (beyond, end[2]) and is_clear(yard, route, [end[0]]):
            found.append(route)
    return found

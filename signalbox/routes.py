"""The routes of a yard, found from its signals."""

from signalbox.layouts import check_yard, joints_out, piece_beyond


def routes(pieces, signals):
    check_yard(pieces, signals)
    told = []
    for number, signal in enumerate(signals):
        for way in ways_on(pieces, signals, [], signal[0], signal[1]):
            told.append((number, way))
    return told


# All ways that begin with the steps of `way`, then come into the piece by the joint, and end
# where a route ends. Each is a list of its own, as the told ways may be changed one by one.
def ways_on(pieces, signals, way, joint, piece):
    if piece in [step[0] for step in way]:
        return []
    found = []
    for out in joints_out(pieces[piece], joint):
        longer = way + [(piece, joint, out)]
        beyond = piece_beyond(pieces, piece, out)
        # The signal is asked ahead of the piece: a way may end at a piece that it has passed.
        if beyond is None or (out, beyond) in signals:
            found.append(longer)
        else:
            found.extend(ways_on(pieces, signals, longer, out, beyond))
    return found

"""What pieces, joints and signals are, and what makes a yard bad.

A piece is ("plain", j, k) or ("points", t, s, b), a signal (joint, piece's number).
"""

from signalbox.errors import BadYard

MOST_PIECES = 16
MOST_SIGNALS = 16
LAST_JOINT = 999


def joints_of(piece):
    return list(piece[1:])


def pieces_at(pieces, joint):
    return [number for number, piece in enumerate(pieces) if joint in joints_of(piece)]


# None stands for the world outside: the joint is a border.
def piece_beyond(pieces, number, joint):
    for other in pieces_at(pieces, joint):
        if other != number:
            return other
    return None


def is_border(pieces, number, joint):
    return piece_beyond(pieces, number, joint) is None


# The order matters: of two routes that part here, the one by s comes first.
def joints_out(piece, joint):
    if piece[0] == "plain":
        return [other for other in joints_of(piece) if other != joint]
    if joint == piece[1]:
        return [piece[2], piece[3]]
    return [piece[1]]


def is_points(piece):
    return piece[0] == "points"


# Points lie "straight" or "branch" for a step; a plain piece needs nothing, as only points are asked.
def lie_for(piece, step):
    if is_points(piece) and piece[3] in step[1:]:
        return "branch"
    return "straight"


def check_yard(pieces, signals):
    check_pieces(pieces)
    check_signals(pieces, signals)


def check_pieces(pieces):
    if len(pieces) == 0:
        raise BadYard("a yard has at least one piece")
    if len(pieces) > MOST_PIECES:
        raise BadYard(f"a yard has at most {MOST_PIECES} pieces")
    for piece in pieces:
        check_joints(pieces, joints_of(piece))


def check_joints(pieces, joints):
    for joint in joints:
        if joint < 0 or joint > LAST_JOINT:
            raise BadYard(f"joint {joint} is not 0 to {LAST_JOINT}")
        if joints.count(joint) > 1:
            raise BadYard(f"a piece has joint {joint} twice")
        if len(pieces_at(pieces, joint)) > 2:
            raise BadYard(f"more than two pieces have joint {joint}")


def check_signals(pieces, signals):
    if len(signals) > MOST_SIGNALS:
        raise BadYard(f"a yard has at most {MOST_SIGNALS} signals")
    for joint, number in signals:
        if signals.count((joint, number)) > 1:
            raise BadYard(f"a signal stands twice at joint {joint} of piece {number}")
        # Asked before the index: -1 would find the last piece.
        if number < 0 or number >= len(pieces):
            raise BadYard(f"a signal's piece {number} is not there")
        if joint not in joints_of(pieces[number]):
            raise BadYard(f"a signal's piece {number} has no joint {joint}")

"""A train: the steps that it is in and those that are ahead of it.

A step is (piece, joint by which it is come into, joint by which it is left), as in a way.
"""


class Train:
    # The steps that it is in begin with the head's, those ahead with the next one.
    def __init__(self):
        self.steps = []
        self.ahead = []
        self.is_out = False


def pieces_under(train):
    return [step[0] for step in train.steps]


def last_step(train):
    if train.ahead:
        return train.ahead[-1]
    return train.steps[0]


def turned(step):
    return (step[0], step[2], step[1])

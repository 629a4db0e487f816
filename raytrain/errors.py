"""The errors of the package: all are RaytrainErrors, and none is an instance of another one."""


class RaytrainError(ValueError):
    """What all errors of the package are instances of."""


class NoSuchElement(RaytrainError):
    """There is no element with this index."""

    def __init__(self, index):
        RaytrainError.__init__(self, f"there is no element with the index {index}")
        self.index = index


class CannotShift(RaytrainError):
    """The element with this index cannot be shifted."""

    def __init__(self, index):
        RaytrainError.__init__(self, f"the element with the index {index} cannot be shifted")
        self.index = index


class NoSuchPosition(RaytrainError):
    """No element can be put at this index."""

    def __init__(self, index):
        RaytrainError.__init__(self, f"no element can be put at the index {index}")
        self.index = index


class TokenError(RaytrainError):
    """No text of a train begins with the tokens up to the one with this number, from 1."""

    def __init__(self, token):
        RaytrainError.__init__(self, f"no text of a train begins with the tokens up to number {token}")
        self.token = token


class PowerCut(RaytrainError):
    """The device lost its power; written is the number of octets on it."""

    def __init__(self, written):
        RaytrainError.__init__(self, f"the power went when {written} octets were on the device")
        self.written = written


class NoDirection(RaytrainError):
    """The first two numbers of a half-plane are both 0."""

    def __init__(self):
        RaytrainError.__init__(self, "p and q of a half-plane are both 0")


class EmptyRegion(RaytrainError):
    """A region with rays was needed, and this one has none."""

    def __init__(self):
        RaytrainError.__init__(self, "the region has no rays")


class NoRays(RaytrainError):
    """At least one ray was needed, and there is none."""

    def __init__(self):
        RaytrainError.__init__(self, "there are no rays")


class EndError(RaytrainError):
    """The text is only the beginning of a text of a train."""

    def __init__(self):
        RaytrainError.__init__(self, "the text ends before the train does")


class BadTrain(RaytrainError):
    """The text is one of a train that is not allowed."""

    def __init__(self):
        RaytrainError.__init__(self, "the train of the text is not allowed")


class TrainFull(RaytrainError):
    """The train of a bench would have too many elements."""

    def __init__(self):
        RaytrainError.__init__(self, "the train has no room for so many elements")


class ShutError(RaytrainError):
    """The journaled bench is shut, because its device lost its power."""

    def __init__(self):
        RaytrainError.__init__(self, "the journaled bench is shut")

"""What the program refuses with."""


class RopeError(ValueError):
    pass


class NoPlace(RopeError):
    pass


class NoRope(RopeError):
    pass


class NoTree(RopeError):
    pass

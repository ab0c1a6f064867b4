"""What the program refuses."""


class SayError(ValueError):
    pass


class NoMove(SayError):
    pass

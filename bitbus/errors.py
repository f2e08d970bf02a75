"""The refusals of the bus."""


class BusError(ValueError):
    pass


class BadFrame(BusError):
    pass


class NoNode(BusError):
    pass


class BadBits(BusError):
    def __init__(self, place):
        BusError.__init__(self, f"not the bits of a frame: wrong at place {place}")
        self.place = place

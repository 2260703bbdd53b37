"""The refusals, one class for each."""


class RoadError(ValueError):
    pass


class BadCars(RoadError):
    pass


class BadCar(RoadError):
    pass


class BadSteps(RoadError):
    pass


class BadRing(RoadError):
    pass

"""The refusals: one class for each, all under ClothError."""


class ClothError(ValueError):
    pass


class NotPrime(ClothError):
    pass


class BadRow(ClothError):
    pass


class BadSpot(ClothError):
    pass


class NoDivisor(ClothError):
    pass


class SameSpot(ClothError):
    pass


class TooMany(ClothError):
    pass


class Enough(ClothError):
    pass


class AllRoots(ClothError):
    pass

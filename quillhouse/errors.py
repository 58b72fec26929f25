"""The refusals of a house."""


class HouseError(ValueError):
    pass


class NoDealing(HouseError):
    pass


class NoPage(HouseError):
    pass


class Taken(HouseError):
    pass


class NoRoom(HouseError):
    pass

"""The refusals."""


class NetError(ValueError):
    pass


class NoNet(NetError):
    pass


class NoMove(NetError):
    pass


class TooFew(NetError):
    pass

"""The refusals of the calls, an error class each, and an error for what is no call at all."""


class NoProgram(Exception):
    pass


class NoRung(Exception):
    pass


class NoNode(Exception):
    pass


class NothingKept(Exception):
    pass


class NoCall(Exception):
    pass


class UnknownCall(ValueError):
    pass

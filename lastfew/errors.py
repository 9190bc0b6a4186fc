"""The refusals: each one by its name, all of them under FewError."""


class FewError(ValueError):
    pass


class BadWindow(FewError):
    pass


class NoWord(FewError):
    pass


class Late(FewError):
    pass


class NoKey(FewError):
    pass

"""The refusals of operations. Each has a code, which is the whole answer."""


class Refusal(Exception):

    def __init__(self, code):
        Exception.__init__(self, code)
        self.code = code


class NoBandit(Refusal):

    def __init__(self):
        Refusal.__init__(self, -11)


class NoSuchArm(Refusal):

    def __init__(self):
        Refusal.__init__(self, -2)


class OutsideLimits(Refusal):

    def __init__(self):
        Refusal.__init__(self, -22)


class TooMany(Refusal):

    def __init__(self):
        Refusal.__init__(self, -28)


class NothingThere(Refusal):

    def __init__(self):
        Refusal.__init__(self, -33)


class NoTruth(Refusal):

    def __init__(self):
        Refusal.__init__(self, -16)

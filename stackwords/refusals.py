"""What goes wrong: one error class for each answer below 0."""


class Refusal(Exception):
    def __init__(self, answer):
        self.answer = answer


class NoText(Refusal):
    def __init__(self):
        Refusal.__init__(self, -1)


class TooFew(Refusal):
    def __init__(self):
        Refusal.__init__(self, -3)


class WrongKind(Refusal):
    def __init__(self):
        Refusal.__init__(self, -4)


class WrongNumber(Refusal):
    def __init__(self):
        Refusal.__init__(self, -5)


class NoSuchName(Refusal):
    def __init__(self):
        Refusal.__init__(self, -6)


class TooMany(Refusal):
    def __init__(self):
        Refusal.__init__(self, -7)


class NoLoop(Refusal):
    def __init__(self):
        Refusal.__init__(self, -8)


class NoWayBack(Refusal):
    def __init__(self):
        Refusal.__init__(self, -9)

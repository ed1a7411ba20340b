"""What breaks a run off: an interruption, or a call of the supervisor."""


class Interruption(Exception):
    """An instruction is interrupted; the number tells why."""

    def __init__(self, number):
        Exception.__init__(self)
        self.number = number


class SupervisorCall(Exception):
    """An instruction calls the supervisor with a number."""

    def __init__(self, number):
        Exception.__init__(self)
        self.number = number

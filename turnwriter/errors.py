"""The errors with which the program refuses what it is asked."""


class MachineError(ValueError):
    """Any refusal."""


class BadMachine(MachineError):
    """What was handed in as a machine is none."""


class TooGreat(MachineError):
    """Two machines are too great to be joined."""


class Twofold(MachineError):
    """The machine writes two unlike texts of some text."""

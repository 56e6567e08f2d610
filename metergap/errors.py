"""What is refused, one class for each kind of refusal."""


class MeterError(ValueError):
    """Any refusal."""


class NoMeter(MeterError):
    """There is no meter yet."""


class StandsAlready(MeterError):
    """Something stands there already."""


class NotLater(MeterError):
    """The day isn't behind the last one."""


class NoValue(MeterError):
    """The meter can't show that value."""


class NoReading(MeterError):
    """Of that day there is no reading that can be struck."""

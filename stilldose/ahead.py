"""What a pump will do, without doing it."""

from stilldose.pumps import tick, twin


def ahead(pump, ticks):
    """What will be sent at each of the next ticks, if nothing else is done."""
    other = twin(pump)
    told = []
    for place in range(ticks):
        told.append(tick(other))
    return told

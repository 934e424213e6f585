"""The speeds: how long a way lasts, and how far it is gone on the way."""

from cagebells.errors import BadSpeeds

GREATEST_SPEED = 500


def check_speeds(slow, fast):
    if slow < 1 or fast < slow or fast > GREATEST_SPEED:
        raise BadSpeeds("speeds keep to 1 <= slow <= fast <= 500")


def wind_ticks(way, speed):
    # Rounded up in whole numbers: a begun tick lasts to its end.
    return (way + speed - 1) // speed


def place_after(begin, end, speed, ticks):
    gone = min(speed * ticks, abs(end - begin))
    if end < begin:
        return begin - gone
    return begin + gone

"""Deeds done one behind the other."""

from cardlanes.errors import Clash, LaneError
from cardlanes.stands import first_stand


def replayed(plan, deeds):
    """The stands of the deeds, done from the first stand on, which is among them."""
    return replayed_from(plan, first_stand(plan), deeds, 0)


def replayed_from(plan, stand, deeds, number):
    """The stands of the deeds, done from this stand on, which is among them; Clash numbers them from the number on."""
    stands = [stand]
    for at, deed in enumerate(deeds, start=number):
        try:
            stands.append(deed.done(plan, stands[-1]))
        except LaneError as why:
            raise Clash(at, why) from why
    return stands

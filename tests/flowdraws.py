"""Links, chains, packets, deeds and settings drawn by chance, always the same for the same seed."""

import random

from suresieves.flows import link_of
from tests import drawn

SETTING_BOUNDS = ((1, 12), (1, 40), (0, 9), (0, 1), (0, 1), (0, 3), (4, 12), (0, 2), (0, 1))


def link(chance):
    """A link of a drawn sieve, for grants of the same kinds but unlike lengths and rights."""
    while True:
        grant = (chance.choice((0, 0, 3)), chance.choice((5, 12, 12)), chance.randint(0, 1), drawn.KINDS)
        told = link_of(drawn.sieve(chance, chance.randint(1, 6)), grant)
        if told is not None:
            return told


def pool(seed, many):
    chance = random.Random(seed)
    return [link(chance) for _ in range(many)]


POOL = pool(3, 50)


def chain(chance):
    return tuple(chance.choice(POOL) for _ in range(chance.randint(1, 4)))


def arrivals(chance, most=8):
    return tuple((drawn.word(chance), drawn.packet(chance, 0, 13)) for _ in range(chance.randint(0, most)))


def settings(chance):
    told = [chance.randint(least, most) for least, most in SETTING_BOUNDS]
    told[1] = chance.choice((1, 2, 3, 6, 40))
    told[2] = chance.choice((0, 0, 0, 1, 2, 9))
    return tuple(told)


def shown_deed(chance):
    t, pick = chance.randrange(5), chance.randrange(5)
    if pick == 0:
        return ("cell", t, chance.choice((0, 1, 3, 4, 31)), drawn.small(chance))
    if pick == 1:
        return ("value", t, chance.randint(0, 6), drawn.small(chance))
    if pick == 2:
        return ("add", t, chance.randint(0, 8), drawn.small(chance))
    if pick == 3:
        return ("off", t, chance.randint(0, 6))
    return ("exchange", chance.randint(0, 3), chance.choice(POOL))


def hidden_deed(chance):
    pick = chance.randrange(5)
    if pick == 0:
        return ("drop", chance.randint(0, 3), chance.randint(0, 8))
    if pick == 1:
        return ("make", chance.randint(0, 3), chance.choice((0, 3, 9, 119)))
    return (("clear",), ("cut",), ("settings", settings(chance)))[pick - 2]


def deeds(chance, least, most, draw=shown_deed, many=8):
    """Deeds at numbers from least to most, several of them at one number."""
    ats = sorted(chance.choice((least, most, chance.randint(least, most))) for _ in range(chance.randint(0, many)))
    return tuple((at, draw(chance)) for at in ats)


def any_deed(chance):
    return shown_deed(chance) if chance.random() < 0.6 else hidden_deed(chance)

"""Loops of a sieve: its flaws, and how many steps it takes at most.

Sieves are not checked here: who calls has done so."""


def loops_in(sieve):
    """For each again that does not lead ahead (FIRST, LAST, COUNTER, TIMES), its loop being FIRST to LAST."""
    loops = []
    for place, row in enumerate(sieve):
        if row[0] == "again" and row[3] <= place:
            loops.append((row[3], place, row[1], row[2]))
    return loops


def does_hold_whole(loop, other):
    """Whether a loop has all rows of another one."""
    return loop[0] <= other[0] and other[1] <= loop[1]


def do_cross(loop, other):
    """Whether two loops share rows, and neither holds the other one, or both have one counter."""
    if max(loop[0], other[0]) > min(loop[1], other[1]):
        return False
    if loop[2] == other[2]:
        return True
    return not (does_hold_whole(loop, other) or does_hold_whole(other, loop))


def reason_of_again(sieve, place, loops):
    """The REASON of the flaw at an again, None if there is none."""
    _, counter, times, d = sieve[place]
    if d > place:
        return "back"
    if ("begin", counter) in sieve[d:place]:
        return "begin"
    loop = (d, place, counter, times)
    for other in loops:
        if other[1] != place and do_cross(loop, other):
            return "crossed"
    return None


def reason_at(sieve, place, loops):
    """The REASON of the flaw at a place, None if there is none."""
    row = sieve[place]
    if row[0] == "again":
        return reason_of_again(sieve, place, loops)
    if row[0] in ("jump", "when", "whenn") and not place < row[-1] < len(sieve):
        return "far"
    return None


def flaws_in(sieve):
    """All flaws of a sieve, ascending."""
    found, loops = [], loops_in(sieve)
    for place in range(len(sieve)):
        reason = reason_at(sieve, place, loops)
        if reason is not None:
            found.append((place, reason))
    return tuple(found)


def rounds_at(place, loops):
    """How often a row is done at most."""
    rounds = 1
    for first, last, _, times in loops:
        if first <= place <= last:
            rounds *= times + 1
    return rounds


def bound_in(sieve):
    """The bound of the steps of a sieve without flaws."""
    loops = loops_in(sieve)
    return sum([rounds_at(place, loops) for place in range(len(sieve))])

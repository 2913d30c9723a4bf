"""The checker: which claims are shown by their papers."""

from suresieves.claims import ACCEPTED, MANY_PARTS


def accepts(claim, paper):
    """Whether a claim is one, and the paper shows that it is so."""
    if not isinstance(claim, tuple) or not claim or not isinstance(claim[0], str):
        return False
    if claim[0] not in ACCEPTED or len(claim) != 1 + MANY_PARTS[claim[0]]:
        return False
    accept = ACCEPTED[claim[0]]
    return accept(claim[1:], paper)

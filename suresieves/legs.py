"""Legs: a plain flow shown by steps and translated blocks, which anybody may have told.

Chains, tables, packets, deeds and numbers of steps are not checked here: who calls has
done so. Legs may be anything."""

from suresieves.checks import is_between, is_tuple
from suresieves.flows import beginning_flow
from suresieves.hostrows import is_sound_translation
from suresieves.judging import is_translation_taken
from suresieves.keeping import form_led
from suresieves.maps import run_passed
from suresieves.rewritings import is_step
from suresieves.streams import Stream, steps_free


def are_form_steps(value):
    """Whether a value is a tuple of what has the form of a step."""
    return isinstance(value, tuple) and all(is_step(step) for step in value)


def is_named(value, many, name):
    """Whether a value is a tuple of so many elements with this name first."""
    return is_tuple(value, many, many) and isinstance(value[0], str) and value[0] == name


def is_block_leg(leg):
    """Whether a value has the form of a leg by a block."""
    if not is_named(leg, 5, "block"):
        return False
    _, long, steps, translation, most = leg
    if not is_between(long, 1, 12) or not are_form_steps(steps) or not is_between(most, 1, 12):
        return False
    return is_sound_translation(translation)


class Walk:
    """A flow that goes leg by leg."""

    def __init__(self, flow, deeds, steps):
        self.stream = Stream(flow)
        self.deeds = deeds
        self.last = flow[5] + steps
        self.forms = {}

    def is_over(self):
        """Whether all steps are done, or the flow is still."""
        return self.stream.total == self.last or self.stream.is_still()

    def form_taken(self, leg):
        """The form for which the judge takes a leg's translation, None if it takes it for none."""
        _, long, steps, translation, _ = leg
        _, index, run = self.stream.hand
        link = self.stream.chain[index]
        key = (link, run[3], long, steps, translation)
        # Flows come to the same places again and again; what is seen once is seen.
        if key not in self.forms:
            form = form_led(link, run[3], long, steps)
            is_good = form is not None and is_translation_taken(form, translation)
            self.forms[key] = form if is_good else None
        return self.forms[key]

    def go_block(self, leg):
        """Go a leg by a block: whether it is right."""
        form, most, stream = self.form_taken(leg), leg[4], self.stream
        free = steps_free(stream.total, self.deeds, self.last - stream.total)
        if form is None or most > min(form[1], free) or form[3][most] is None:
            return False
        x, run = run_passed(leg[3], stream.hand[2], most)
        number = leg[3][1][x][0]
        if number == 0:
            return False
        stream.lead(run, number)
        return True

    def go(self, leg):
        """Go a leg: whether it is right."""
        if self.is_over():
            return False
        self.stream.deal_all(self.deeds)
        if is_named(leg, 1, "step"):
            self.stream.step()
            return True
        return is_block_leg(leg) and self.go_block(leg)


def flow_by_legs(chain, tables, coming, deeds, steps, legs):
    """The flow to which legs lead within so many steps, None if they are not right."""
    walk = Walk(beginning_flow(chain, tables, coming), deeds, steps)
    if not isinstance(legs, tuple):
        return None
    for leg in legs:
        if not walk.go(leg):
            return None
    return walk.stream.flow() if walk.is_over() else None

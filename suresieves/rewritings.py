"""Rewritings: forms led to others that do the same."""

from suresieves.checks import first_bad, is_between, is_from_nought
from suresieves.effects import CHANGES, READINGS, is_sure
from suresieves.errors import InvalidKept, InvalidStep, InvalidSteps, InvalidSure
from suresieves.forms import need_form
from suresieves.putting import all_named
from suresieves.rewriting import STEP_NUMBERS, all_steps, form_taken, led_form, made_better


def is_step(value):
    """Whether a value has the form of a step."""
    if not isinstance(value, tuple) or not value or not isinstance(value[0], str):
        return False
    if value[0] not in STEP_NUMBERS or len(value) != 1 + STEP_NUMBERS[value[0]]:
        return False
    return all(is_from_nought(part) for part in value[1:])


def are_places(value):
    """Whether a value is an ascending tuple of whole numbers from 0 to 119."""
    if not isinstance(value, tuple) or not all(is_between(place, 0, 119) for place in value):
        return False
    return all(one < two for one, two in zip(value, value[1:]))


def need_step(step):
    """Raise InvalidStep for what has not the form of a step."""
    if not is_step(step):
        raise InvalidStep(step)


def need_steps_of_forms(steps):
    """Raise InvalidSteps for what is no tuple of what has the form of a step."""
    if not isinstance(steps, tuple):
        raise InvalidSteps(None)
    wrong = first_bad(steps, is_step)
    if wrong is not None:
        raise InvalidSteps(wrong)


def need_sure(sure):
    """Raise InvalidSure for what are no sure places."""
    if not are_places(sure):
        raise InvalidSure(sure)


def need_kept(kept):
    """Raise InvalidKept for what are no boundaries to keep."""
    if not are_places(kept):
        raise InvalidKept(kept)


def steps_of(form, sure):
    """All steps that can be taken, ascending."""
    need_form(form)
    need_sure(sure)
    return all_steps(form, sure)


def rewritten(form, step, sure):
    """The form behind a step, None if it can't be taken."""
    need_form(form)
    need_step(step)
    need_sure(sure)
    return form_taken(form, step, sure)


def better(form, kept, sure):
    """The form behind always the first step that drops no kept boundary, and these steps."""
    need_form(form)
    need_kept(kept)
    need_sure(sure)
    return made_better(form, kept, sure)


def led_through(form, steps, sure):
    """The form behind steps, one after the other, None if one can't be taken."""
    need_form(form)
    need_steps_of_forms(steps)
    need_sure(sure)
    return led_form(form, steps, sure)


def weight_of(effect):
    """What an effect adds to the sum, beside the values that it names."""
    if effect[0] == "gone":
        return 0
    if effect[0] in READINGS or effect[0] in CHANGES:
        weight = 100 if effect[0] in READINGS else 2
        return weight if is_sure(effect) else weight + 1
    return 2 if effect[0] in ("one", "do") else 1


def sum_of(form):
    """The sum that falls with each step."""
    need_form(form)
    told = len([boundary for boundary in form[3] if boundary is not None])
    ends = 1 if form[4][0] == "when" else 0
    return told + ends + sum([weight_of(effect) for effect in form[2]]) + sum(all_named(form))

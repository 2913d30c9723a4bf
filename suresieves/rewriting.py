"""The steps by which forms are rewritten: where they can be taken, and what comes of them.

Forms, steps and sure places are not checked here: who calls has done so."""

from suresieves.doing import exchanged
from suresieves.effects import CHANGES, PLAIN, READINGS, does_reach, is_sure, row_of
from suresieves.finding import does_tell, word_of
from suresieves.formchecks import places_left
from suresieves.putting import put_for, used_flags, with_effect
from suresieves.words import combined, related
from suresieves.working import helped

# How many numbers stand behind each step's word; the words in ascending order.
STEP_NUMBERS = {
    "drop": 1,
    "ended": 0,
    "fold": 1,
    "itself": 1,
    "nought": 1,
    "out": 1,
    "same": 2,
    "sure": 1,
    "told": 2,
}


def can_drop(form, number):
    """Whether a boundary can be dropped."""
    if number >= len(form[3]) or form[3][number] is None:
        return False
    return number not in places_left(form[2], form[1])


def can_end(form):
    """Whether END is a when of two numbers."""
    end, effects = form[4], form[2]
    return end[0] == "when" and effects[end[2]][0] == "number" and effects[end[3]][0] == "number"


def folded_word(effects, k):
    """The word that a one of a number, a do of two numbers tells, None for any other effect."""
    effect = effects[k]
    if effect[0] == "one":
        word = word_of(effects, effect[2])
        return None if word is None else helped(effect[1], word)
    if effect[0] == "do":
        one, two = word_of(effects, effect[2]), word_of(effects, effect[3])
        return None if one is None or two is None else combined(effect[1], one, two)
    return None


def gives_itself(effects, k):
    """Whether an effect is a do that gives back its X."""
    if effects[k][0] != "do":
        return False
    _, op, x, y = effects[k]
    if op in ("and", "or") and x == y:
        return True
    word = word_of(effects, y)
    if word is None:
        return False
    if op in ("left", "right"):
        return word & 15 == 0
    return word == (65535 if op == "and" else 0)


def is_nought(effect):
    """Whether an effect is sub or xor of a value and itself."""
    return effect[0] == "do" and effect[1] in ("sub", "xor") and effect[2] == effect[3]


def can_go(effect):
    """Whether an effect can go out where nobody uses its value."""
    return effect[0] in PLAIN or (effect[0] in READINGS and is_sure(effect))


def can_become_sure(form, k, sure):
    """Whether an effect can become sure, beside the sure places."""
    effect = form[2][k]
    return does_reach(effect) and not is_sure(effect) and form[0] + row_of(effect) in sure


def can_do_at(form, name, k, sure, used):
    """Whether a step of one value can be taken at an effect that is there."""
    effects = form[2]
    if name == "fold":
        return folded_word(effects, k) is not None
    if name == "itself":
        return used[k] and gives_itself(effects, k)
    if name == "nought":
        return is_nought(effects[k])
    if name == "out":
        return not used[k] and can_go(effects[k])
    return can_become_sure(form, k, sure)


def can_do_beside(form, name, k, j, used):
    """Whether a step of two values can be taken, both effects being there, j ahead of k."""
    effects = form[2]
    if name == "same":
        return used[k] and effects[k][0] in PLAIN and effects[k] == effects[j]
    return does_tell(effects, k, j)


def can_take(form, step, sure, used):
    """Whether a step can be taken, used telling for each effect whether its value is."""
    name = step[0]
    if name == "ended":
        return can_end(form)
    if name == "drop":
        return can_drop(form, step[1])
    if step[1] >= len(form[2]):
        return False
    if name in ("same", "told"):
        return step[2] < step[1] and can_do_beside(form, name, step[1], step[2], used)
    return can_do_at(form, name, step[1], sure, used)


def steps_named(form, name, sure, used):
    """All steps of a name that can be taken, ascending."""
    many = len(form[2])
    if name == "ended":
        steps = [(name,)]
    elif name == "drop":
        steps = [(name, number) for number in range(len(form[3]))]
    elif name in ("same", "told"):
        steps = [(name, k, j) for k in range(many) for j in range(k)]
    else:
        steps = [(name, k) for k in range(many)]
    return [step for step in steps if can_take(form, step, sure, used)]


def all_steps(form, sure):
    """All steps that can be taken, ascending."""
    used, steps = used_flags(form), []
    for name in STEP_NUMBERS:
        steps.extend(steps_named(form, name, sure, used))
    return tuple(steps)


def told_again(form, k, j):
    """A form whose reading k is told by effect j."""
    other = form[2][j]
    if other[0] == "write":
        return with_effect(form, k, ("one", "low", other[3]))
    source = other[3] if other[0] in CHANGES else j
    return with_effect(put_for(form, k, source), k, ("gone",))


def ended_form(form):
    """A form whose END is a when of two numbers, as its condition tells."""
    _, condition, x, y, d = form[4]
    holds = related(condition, form[2][x][1], form[2][y][1])
    return exchanged(form, 4, ("jump", d) if holds else ("on",))


def form_behind(form, step):
    """The form behind a step that can be taken."""
    name, effects = step[0], form[2]
    if name == "drop":
        return exchanged(form, 3, exchanged(form[3], step[1], None))
    if name == "ended":
        return ended_form(form)
    k = step[1]
    if name == "fold":
        return with_effect(form, k, ("number", folded_word(effects, k)))
    if name == "itself":
        return put_for(form, k, effects[k][2])
    if name == "nought":
        return with_effect(form, k, ("number", 0))
    if name == "out":
        return with_effect(form, k, ("gone",))
    if name == "same":
        return put_for(form, k, step[2])
    if name == "sure":
        return with_effect(form, k, effects[k][:-1] + (1,))
    return told_again(form, k, step[2])


def form_taken(form, step, sure):
    """The form behind a step, None if it can't be taken."""
    return form_behind(form, step) if can_take(form, step, sure, used_flags(form)) else None


def first_step(form, kept, sure):
    """The first step that can be taken and drops none of the kept boundaries, None if there is none."""
    used = used_flags(form)
    for name in STEP_NUMBERS:
        steps = steps_named(form, name, sure, used)
        if name == "drop":
            steps = [step for step in steps if step[1] not in kept]
        if steps:
            return steps[0]
    return None


def made_better(form, kept, sure):
    """The form behind always the first step, and these steps."""
    steps, step = [], first_step(form, kept, sure)
    while step is not None:
        form = form_behind(form, step)
        steps.append(step)
        step = first_step(form, kept, sure)
    return form, tuple(steps)


def led_form(form, steps, sure):
    """The form behind steps, one after the other, None if one can't be taken."""
    for step in steps:
        form = form_taken(form, step, sure)
        if form is None:
            return None
    return form

"""Which values are runners of a flow.

The flow is not checked here: who calls has it from this package."""

from suresieves.checks import are_all, is_between, is_from_nought, is_same, is_tuple, is_whole
from suresieves.deeds import are_sound_settings
from suresieves.formchecks import is_sound_form
from suresieves.hostrows import is_sound_translation
from suresieves.judging import is_translation_taken
from suresieves.keeping import MOST_LINKED, form_led
from suresieves.rewritings import is_step


def is_block_link(value):
    """Whether a value is a pair (TARGET, SERIAL)."""
    return is_tuple(value, 2, 2) and is_between(value[0], 0, 119) and is_whole(value[1])


def are_block_links(value):
    """Whether a value is the links of a block, as far as it tells by itself."""
    if not are_all(value, 0, MOST_LINKED, is_block_link):
        return False
    targets = [target for target, _ in value]
    return len(set(targets)) == len(targets)


def has_block_parts(value, chain):
    """Whether a value is a tuple of nine with the parts of a kept block, each by itself."""
    if not is_tuple(value, 9, 9):
        return False
    serial, index, place, long, steps, form, translation, last, links = value
    if not (is_whole(serial) and serial >= 1 and is_between(index, 0, len(chain) - 1)):
        return False
    if not (is_between(place, 0, 119) and is_between(long, 1, 12)):
        return False
    if not isinstance(steps, tuple) or not all(is_step(step) for step in steps):
        return False
    if not is_from_nought(last) or not are_block_links(links):
        return False
    return is_sound_form(form) and is_sound_translation(translation)


def is_kept_block(value, chain):
    """Whether a value is a kept block, apart from what the others and the counts have to be beside it."""
    if not has_block_parts(value, chain):
        return False
    _, index, place, long, steps, form, translation, _, _ = value
    return form_led(chain[index], place, long, steps) == form and is_translation_taken(form, translation)


def do_links_lead(block, blocks):
    """Whether each link of a kept block leads to a kept one of the same link."""
    there = [(other[2], other[0]) for other in blocks if other[1] == block[1]]
    return all(link in there for link in block[8])


def are_kept_blocks(value, chain, settings, serial, entered):
    """Whether a value is kept blocks, with the next SERIAL and how many were entered."""
    if not is_tuple(value, 0, settings[1]) or not all(is_kept_block(block, chain) for block in value):
        return False
    serials = [block[0] for block in value] + [serial]
    if not all(one < two for one, two in zip(serials, serials[1:])):
        return False
    places = [block[1:3] for block in value]
    if len(set(places)) < len(places) or any(block[7] > entered for block in value):
        return False
    return all(do_links_lead(block, value) for block in value)


def is_come(value, many):
    """Whether a value is a pair ((INDEX, PLACE), TIMES), of so many links."""
    if not is_tuple(value, 2, 2) or not is_tuple(value[0], 2, 2) or not is_between(value[1], 1, 9):
        return False
    return is_between(value[0][0], 0, many - 1) and is_between(value[0][1], 0, 119)


def are_comes(value, many):
    """Whether a value is COMES, of so many links."""
    if not isinstance(value, tuple) or not all(is_come(come, many) for come in value):
        return False
    return all(one[0] < two[0] for one, two in zip(value, value[1:]))


def is_source_of(value, hand, blocks):
    """Whether a value is 0 or the serial of a kept block of the link at hand."""
    if not is_whole(value):
        return False
    return value == 0 or (hand[0] == "run" and (value, hand[1]) in [block[:2] for block in blocks])


def is_runner_of(flow, value):
    """Whether a value is a runner of a flow."""
    if not is_tuple(value, 7, 7) or not is_same(value[0], flow):
        return False
    _, settings, blocks, comes, source, serial, tally = value
    if not are_sound_settings(settings) or not are_all(tally, 7, 7, is_from_nought):
        return False
    if not (is_whole(serial) and serial >= 1):
        return False
    if not are_kept_blocks(blocks, flow[0], settings, serial, tally[3]):
        return False
    return are_comes(comes, len(flow[0])) and is_source_of(source, flow[2], blocks)

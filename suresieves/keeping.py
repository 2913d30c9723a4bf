"""Kept blocks of a runner: how they are made, and whether they still hold.

Links and settings are not checked here: who calls has done so."""

from suresieves.blocks import rows_at
from suresieves.forming import formed
from suresieves.inspector import places_sure
from suresieves.making import translation_made
from suresieves.rewriting import led_form, made_better

MOST_LINKED = 4


class Block:
    """A kept block; its LAST and LINKS may change."""

    def __init__(self, told):
        serial, index, place, long, steps, form, translation, last, links = told
        self.serial = serial
        self.index = index
        self.place = place
        self.long = long
        self.steps = steps
        self.form = form
        self.translation = translation
        self.last = last
        self.links = list(links)

    def kept_block(self):
        """The kept block as it is now."""
        parts = (self.serial, self.index, self.place, self.long, self.steps, self.form, self.translation)
        return parts + (self.last, tuple(self.links))

    def linked(self, place):
        """The serial of the block to which it has a link for a place, None if it has none."""
        for target, serial in self.links:
            if target == place:
                return serial
        return None

    def link(self, place, serial):
        """A further link, the first one going if there would be five."""
        self.links = (self.links + [(place, serial)])[-MOST_LINKED:]

    def unlink(self, serial):
        """All links to a block go."""
        self.links = [link for link in self.links if link[1] != serial]


def block_form(link, place, long):
    """The form of the block of a link's sieve at a place, None if there is none."""
    rows = rows_at(link[0], place, long)
    return formed(place, rows) if rows else None


def form_led(link, place, long, steps):
    """The form to which steps lead that of a link's block, None if they can't be taken."""
    form = block_form(link, place, long)
    return None if form is None else led_form(form, steps, places_sure(link[0], link[2]))


def graded(form, grade, link):
    """The form and steps that a GRADE tells of the form of a link's block."""
    if grade == 0:
        return form, ()
    if grade == 1:
        return made_better(form, tuple(range(form[1] + 1)), ())
    return made_better(form, (), places_sure(link[0], link[2]) if grade == 3 else ())


def block_made(serial, index, place, link, settings):
    """A block made by settings of a link's sieve, at a place that is there."""
    long, grade, cells = settings[0], settings[5], settings[6]
    form, steps = graded(block_form(link, place, long), grade, link)
    return Block((serial, index, place, long, steps, form, translation_made(form, cells), 0, ()))

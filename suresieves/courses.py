"""Runners at work: leaps and deeds, one behind the other.

Runners and deeds are not checked here: who calls has done so."""

from suresieves.deeds import is_shown
from suresieves.keeping import Block, block_made, form_led
from suresieves.maps import run_passed
from suresieves.snapshots import run_in, snapshot_of
from suresieves.streams import Stream, steps_free

# What the seven numbers of TALLY count, by their index.
PLAIN = 0
TRANSLATED = 1
MADE = 2
ENTERED = 3
LINKED = 4
THROWN = 5
CROWDED = 6


class Course:
    """A runner at work, with the tale of what it does, and the legs by which it goes."""

    def __init__(self, runner):
        flow, settings, kept, comes, source, serial, tally = runner
        self.stream = Stream(flow)
        self.settings = settings
        self.blocks = [Block(told) for told in kept]
        self.comes = {key: times for key, times in comes}
        self.source = source
        self.serial = serial
        self.tally = list(tally)
        self.tale = []
        self.legs = []

    def runner(self):
        """The runner that there is now."""
        comes = tuple(sorted([(key, self.comes[key]) for key in self.comes]))
        blocks = tuple([block.kept_block() for block in self.blocks])
        return self.stream.flow(), self.settings, blocks, comes, self.source, self.serial, tuple(self.tally)

    def grow(self, which, many):
        """Let one of the numbers of TALLY grow."""
        self.tally[which] += many

    def numbered(self, serial):
        """The kept block with a serial, None if there is none."""
        for block in self.blocks:
            if block.serial == serial:
                return block
        return None

    def standing(self, index, place):
        """The kept block for a place of a link, None if there is none."""
        for block in self.blocks:
            if block.index == index and block.place == place:
                return block
        return None

    def go(self, block):
        """A block goes, and takes all links to it along."""
        self.blocks = [other for other in self.blocks if other.serial != block.serial]
        for other in self.blocks:
            other.unlink(block.serial)
        if self.source == block.serial:
            self.source = 0

    def go_all(self):
        """All blocks go."""
        self.blocks = []
        self.source = 0

    def crowd(self, most):
        """Blocks go for want of room, as long as more than most are kept."""
        victim = self.settings[7]
        while len(self.blocks) > most:
            going = list(self.blocks) if victim == 2 else [self.least(victim)]
            for block in going:
                self.tale.append(("crowded", block.serial))
                self.grow(CROWDED, 1)
                self.go(block)

    def least(self, victim):
        """The block that goes first: by its serial, or by when it was entered last."""
        if victim == 0:
            return self.blocks[0]
        last = min([block.last for block in self.blocks])
        return [block for block in self.blocks if block.last == last][0]

    def throw(self, index):
        """Blocks go that an exchange of a link throws away."""
        link, is_fine = self.stream.chain[index], self.settings[8] == 1
        for block in list(self.blocks):
            if block.index == index and not (is_fine and does_hold(block, link)):
                self.tale.append(("thrown", block.serial))
                self.grow(THROWN, 1)
                self.go(block)

    def make(self, index, place):
        """A block is made and kept."""
        self.crowd(self.settings[1] - 1)
        block = block_made(self.serial, index, place, self.stream.chain[index], self.settings)
        self.serial += 1
        self.blocks.append(block)
        self.grow(MADE, 1)
        self.tale.append(("made", block.serial, index, place, block.form[1]))
        return block

    def deal(self, deed):
        """Do a deed."""
        head = deed[0]
        if is_shown(deed):
            is_done = self.stream.deal(deed)
            if is_done and head == "exchange":
                self.throw(deed[1])
        elif head == "drop":
            block = self.standing(deed[1], deed[2])
            if block is not None:
                self.go(block)
        elif head == "make":
            self.make_if_none(deed[1], deed[2])
        elif head == "settings":
            self.settings = deed[1]
            self.crowd(self.settings[1])
        else:
            if head == "cut":
                self.cut()
            self.go_all()
            self.comes = {}

    def cut(self):
        """The run at hand is written as a snapshot and read back."""
        stream = self.stream
        if not stream.is_still():
            _, index, run = stream.hand
            stream.hand = ("run", index, run_in(snapshot_of(run)))

    def make_if_none(self, index, place):
        """A block is made if there is such a link and place and none is kept there."""
        chain = self.stream.chain
        if index < len(chain) and place < len(chain[index][0]) and self.standing(index, place) is None:
            self.make(index, place)

    def leap(self, deeds, steps):
        """One leap of a flow that is not still, with so many steps left, at least one."""
        total = self.stream.total
        for at, deed in deeds:
            if at == total:
                self.tale.append(("deed", deed))
                self.deal(deed)
        block, is_linked = self.sought()
        if block is None:
            self.step()
            return
        if not is_linked:
            self.link(block)
        most = most_of(block.form, steps_free(total, deeds, steps), self.settings[4] == 1)
        if most is None:
            self.step()
        else:
            self.enter(block, is_linked, most)

    def sought(self):
        """The block to be entered, made if need be, None for none; and whether it was found by a link."""
        _, index, run = self.stream.hand
        place = run[3]
        source = self.numbered(self.source) if self.settings[3] == 1 else None
        serial = None if source is None else source.linked(place)
        if serial is not None:
            return self.numbered(serial), True
        block = self.standing(index, place)
        if block is None and self.is_hot(index, place):
            block = self.make(index, place)
        return block, False

    def is_hot(self, index, place):
        """Come to a place without a block: whether it has been come to often enough."""
        key = (index, place)
        times = self.comes.get(key, 0) + 1
        if times <= self.settings[2]:
            self.comes[key] = times
            return False
        if key in self.comes:
            del self.comes[key]
        return True

    def link(self, block):
        """A block that is come to from a kept one is linked to it."""
        source = self.numbered(self.source) if self.settings[3] == 1 else None
        if source is not None:
            source.link(block.place, block.serial)
            self.tale.append(("linked", source.serial, block.place, block.serial))

    def step(self):
        """A plain step."""
        stream = self.stream
        _, index, run = stream.hand
        self.tale.append(("step", stream.total, index, run[3]))
        self.legs.append(("step",))
        self.grow(PLAIN, 1)
        stream.step()
        self.source = 0

    def enter(self, block, is_linked, most):
        """A block is entered, for at most so many rows."""
        stream = self.stream
        self.grow(ENTERED, 1)
        if is_linked:
            self.grow(LINKED, 1)
        block.last = self.tally[ENTERED]
        x, run = run_passed(block.translation, stream.hand[2], most)
        number, why = block.translation[1][x][:2]
        self.tale.append(("entered", block.serial, stream.total, number, why))
        self.legs.append(("block", block.long, block.steps, block.translation, most))
        self.grow(TRANSLATED, number)
        stream.lead(run, number)
        self.source = block.serial if why == "end" and run[8] is None else 0
        if why == "fault":
            self.step()

    def lead(self, deeds, steps):
        """Leap until no steps are left or the flow is still."""
        stream, last = self.stream, self.stream.total + steps
        while stream.total < last and not stream.is_still():
            self.leap(deeds, last - stream.total)


def does_hold(block, link):
    """Whether a block's steps lead the form of a link's block there to its form."""
    return form_led(link, block.place, block.long, block.steps) == block.form


def most_of(form, free, is_short_let):
    """For at most how many rows a form is entered with so many free steps, None if it is not."""
    told = [number for number in range(1, form[1] + 1) if form[3][number] is not None and number <= free]
    if not told or (told[-1] != form[1] and not is_short_let):
        return None
    return told[-1]

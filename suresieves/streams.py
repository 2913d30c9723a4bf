"""Flows at work: packets brought from link to link, step by step, and shown deeds done in between.

Flows, packets and deeds are not checked here: who calls has done so."""

from suresieves.deeds import is_shown, tables_behind
from suresieves.doing import exchanged, stepped
from suresieves.runs import begun_run, does_fit


def with_may(tables, kinds):
    """Tables, each with the MAY of the kind with its index, if there is one."""
    mays = [kind[1] for kind in kinds[:len(tables)]]
    allowed = [exchanged(table, 1, may) for table, may in zip(tables, mays)]
    return tuple(allowed) + tables[len(mays):]


def fitting_run(link, clock, packet, tables):
    """The run of a link that is begun with a packet, None if it does not fit."""
    grant = link[1]
    run = begun_run(packet, with_may(tables, grant[3]), clock, grant[2])
    return run if does_fit(grant, run) else None


class Stream:
    """A flow at work."""

    def __init__(self, flow):
        chain, coming, hand, verdicts, counts, total = flow
        self.chain = chain
        self.coming = list(coming)
        self.hand = hand
        self.verdicts = list(verdicts)
        self.counts = [list(count) for count in counts]
        self.total = total

    def flow(self):
        """The flow that there is now."""
        counts = tuple([tuple(count) for count in self.counts])
        return self.chain, tuple(self.coming), self.hand, tuple(self.verdicts), counts, self.total

    def is_still(self):
        """Whether no packet is at hand."""
        return self.hand[0] == "still"

    def tables_now(self):
        """The tables of the run at hand, or with which it is still."""
        return self.hand[1] if self.is_still() else self.hand[2][5]

    def feed(self, coming):
        """More packets wait, and the first one is brought if none is at hand."""
        self.coming.extend(coming)
        self.bring_next()

    def bring_next(self):
        """Bring packets that wait, until one is at hand."""
        while self.coming and self.is_still():
            clock, packet = self.coming.pop(0)
            self.bring(0, clock, packet, self.tables_now())

    def bring(self, index, clock, packet, tables):
        """Bring a packet to an index: to the first link from there on that it fits, or it has passed."""
        for number in range(index, len(self.chain)):
            run = fitting_run(self.chain[number], clock, packet, tables)
            if run is not None:
                self.hand = ("run", number, run)
                return
            self.grow(number, 3, 1)
        self.verdicts.append(("passed", packet))
        self.hand = ("still", tables)

    def grow(self, index, which, many):
        """Let one of a link's five counts grow."""
        counts = self.counts[index]
        counts[which] += many

    def step(self):
        """Do a step of the run at hand."""
        _, index, run = self.hand
        self.lead(stepped(self.chain[index][0], run), 1)

    def lead(self, run, steps):
        """Put the run at hand behind so many steps; if it has ended the packet goes on."""
        index = self.hand[1]
        self.total += steps
        self.grow(index, 4, steps)
        self.hand = ("run", index, run)
        if run[8] is not None:
            self.go_on(index, run)

    def go_on(self, index, run):
        """Let a packet go on behind a run that ended with an answer."""
        packet, tables, clock, word = run[4], run[5], run[6], run[8][1]
        if word == 1:
            self.grow(index, 0, 1)
            self.bring(index + 1, clock, packet, tables)
        elif word == 0:
            self.grow(index, 1, 1)
            self.verdicts.append(("dropped", index))
            self.hand = ("still", tables)
        else:
            self.grow(index, 2, 1)
            self.verdicts.append(("sent", index, word, packet))
            self.hand = ("still", tables)
        self.bring_next()

    def deal(self, deed):
        """Do a shown deed: whether it could be done."""
        if deed[0] == "exchange":
            return self.exchange(deed[1], deed[2])
        tables = tables_behind(self.tables_now(), deed)
        if tables is None:
            return False
        if self.is_still():
            self.hand = ("still", tables)
        elif deed[0] in ("add", "off"):
            return self.begin_anew(self.chain[self.hand[1]], tables)
        else:
            self.hand = exchanged(self.hand, 2, exchanged(self.hand[2], 5, tables))
        return True

    def begin_anew(self, link, tables):
        """Begin the run at hand anew, by a link with tables: whether it has done no step yet, and fits."""
        run = self.hand[2]
        anew = fitting_run(link, run[6], run[4], tables) if run[7] == 0 else None
        if anew is None:
            return False
        self.hand = exchanged(self.hand, 2, anew)
        return True

    def exchange(self, index, link):
        """Put another link at an index: whether it could be done."""
        if index >= len(self.chain):
            return False
        if not self.is_still() and self.hand[1] == index and not self.begin_anew(link, self.tables_now()):
            return False
        self.chain = exchanged(self.chain, index, link)
        return True

    def deal_all(self, deeds):
        """Do the shown ones of the deeds that are due."""
        for at, deed in deeds:
            if at == self.total and is_shown(deed):
                self.deal(deed)


def steps_free(total, deeds, steps):
    """The free steps of a flow that is not still, with so many steps left and deeds."""
    return min([steps] + [at - total for at, _ in deeds if at > total])

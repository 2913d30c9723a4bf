"""Flows in a second way: packets as what they go through, one at a time."""

from suresieves.runs import begun, fits, one_step


class Second:
    """A flow, as what happens to each packet."""

    def __init__(self, chain, tables, coming):
        self.chain, self.tables = list(chain), tables
        self.waiting, self.hand = list(coming), None
        self.verdicts, self.total = [], 0
        self.counts = [dict.fromkeys(("passed", "dropped", "sent", "out", "steps"), 0) for _ in chain]
        self.fill_hand()

    def start(self, link, clock, packet, tables):
        """The begun run of a link, None if it does not fit."""
        _, grant, _ = link
        allowed = []
        for t, (sort, may, content) in enumerate(tables):
            allowed.append((sort, grant[3][t][1] if t < len(grant[3]) else may, content))
        run = begun(packet, tuple(allowed), clock, grant[2])
        return run if fits(grant, run) else None

    def through(self, clock, packet, first):
        """Whether a packet goes by all links from the first one on; else it is at hand."""
        for index in range(first, len(self.chain)):
            run = self.start(self.chain[index], clock, packet, self.tables)
            if run:
                self.hand = [index, run]
                return False
            self.counts[index]["out"] += 1
        self.verdicts.append(("passed", packet))
        return True

    def fill_hand(self):
        while self.hand is None and self.waiting:
            clock, packet = self.waiting.pop(0)
            self.through(clock, packet, 0)

    def step(self):
        index, run = self.hand
        run = one_step(self.chain[index][0], run)
        self.counts[index]["steps"] += 1
        self.total += 1
        self.hand[1] = run
        if run[8] is None:
            return
        kind, word = run[8]
        assert kind == "answer"
        self.tables, self.hand = run[5], None
        if word == 1:
            self.counts[index]["passed"] += 1
            self.through(run[6], run[4], index + 1)
        elif word == 0:
            self.counts[index]["dropped"] += 1
            self.verdicts.append(("dropped", index))
        else:
            self.counts[index]["sent"] += 1
            self.verdicts.append(("sent", index, word, run[4]))
        self.fill_hand()

    def now(self):
        """The tables that there are now."""
        return self.tables if self.hand is None else self.hand[1][5]

    def with_tables(self, tables, anew):
        """Take other tables, by a run that is begun anew if that is asked for."""
        if self.hand is None:
            self.tables = tables
        elif not anew:
            self.hand[1] = self.hand[1][:5] + (tables,) + self.hand[1][6:]
        elif self.hand[1][7] == 0:
            run = self.start(self.chain[self.hand[0]], self.hand[1][6], self.hand[1][4], tables)
            self.hand[1] = run or self.hand[1]

    def deal(self, deed):
        if deed[0] == "exchange":
            return self.exchange(deed[1], deed[2])
        head, t, key, *word = deed
        tables = [list(table) for table in self.now()]
        if t >= len(tables) or tables[t][0] != ("array" if head == "cell" else "pairs"):
            return
        content = dict(enumerate(tables[t][2])) if head == "cell" else dict(tables[t][2])
        if head == "add" and (key in content or len(content) == 16) or head != "add" and key not in content:
            return
        if head == "off":
            del content[key]
        else:
            content[key] = word[0]
        tables[t][2] = tuple(content.values()) if head == "cell" else tuple(sorted(content.items()))
        self.with_tables(tuple(tuple(table) for table in tables), head in ("add", "off"))

    def exchange(self, index, link):
        if index >= len(self.chain):
            return
        if self.hand is not None and self.hand[0] == index:
            if self.hand[1][7] > 0:
                return
            run = self.start(link, self.hand[1][6], self.hand[1][4], self.hand[1][5])
            if not run:
                return
            self.hand[1] = run
        self.chain[index] = link

    def go(self, deeds, steps):
        """So many steps, deeds being done that are due."""
        while steps > 0 and self.hand is not None:
            for at, deed in deeds:
                if at == self.total:
                    self.deal(deed)
            self.step()
            steps -= 1
        return self

    def flow(self):
        hand = ("still", self.tables) if self.hand is None else ("run", self.hand[0], self.hand[1])
        counts = tuple(tuple(count.values()) for count in self.counts)
        return tuple(self.chain), tuple(self.waiting), hand, tuple(self.verdicts), counts, self.total


def second_flow(chain, tables, coming, deeds, steps):
    """The plain flow with shown deeds behind so many steps."""
    return Second(chain, tables, coming).go(deeds, steps).flow()

"""Runners in a second way: what is kept as dicts, flows led by plain steps alone."""

from suresieves.flows import dealt, flowed, free_steps
from suresieves.forms import form_of
from suresieves.inspector import sure_places
from suresieves.making import made
from suresieves.maps import passed
from suresieves.rewritings import better, led_through
from suresieves.runs import begun, fits
from suresieves.snapshots import read_snapshot, write_snapshot

NAMES = ("limit", "room", "heat", "chained", "short", "grade", "cells", "victim", "grain")
COUNTED = ("plain", "translated", "made", "entered", "linked", "thrown", "crowded")


class SecondRunner:
    """A runner as the document tells it, sentence by sentence."""

    def __init__(self, flow, settings):
        self.flow, self.set = flow, dict(zip(NAMES, settings))
        self.kept, self.comes, self.came_from, self.next = {}, {}, 0, 1
        self.tally, self.tale = dict.fromkeys(COUNTED, 0), []

    def runner(self):
        told = tuple(
            (serial, *block["at"], block["long"], block["steps"], block["form"], block["translation"], block["last"],
             tuple(block["links"]))
            for serial, block in sorted(self.kept.items())
        )
        return (self.flow, tuple(self.set.values()), told, tuple(sorted(self.comes.items())), self.came_from, self.next,
                tuple(self.tally.values()))

    def at(self, index, place):
        found = [serial for serial, block in self.kept.items() if block["at"] == (index, place)]
        return found[0] if found else 0

    def go(self, serial):
        del self.kept[serial]
        for block in self.kept.values():
            block["links"] = [(target, there) for target, there in block["links"] if there != serial]
        if self.came_from == serial:
            self.came_from = 0

    def crowd(self, room):
        """Blocks go while there are more than so many."""
        while len(self.kept) > room:
            if self.set["victim"] == 0:
                going = [min(self.kept)]
            elif self.set["victim"] == 1:
                going = [min(self.kept, key=lambda serial: (self.kept[serial]["last"], serial))]
            else:
                going = sorted(self.kept)
            for serial in going:
                self.go(serial)
                self.tally["crowded"] += 1
                self.tale.append(("crowded", serial))

    def make(self, index, place):
        self.crowd(self.set["room"] - 1)
        sieve, grant, table = self.flow[0][index]
        form, steps = form_of(sieve, place, self.set["limit"]), ()
        if self.set["grade"] > 0:
            kept = tuple(range(13)) if self.set["grade"] == 1 else ()
            form, steps = better(form, kept, sure_places(sieve, grant, table) if self.set["grade"] == 3 else ())
        serial, self.next = self.next, self.next + 1
        self.kept[serial] = {
            "at": (index, place), "long": self.set["limit"], "steps": steps, "form": form,
            "translation": made(form, self.set["cells"]), "last": 0, "links": [],
        }
        self.tally["made"] += 1
        self.tale.append(("made", serial, index, place, form[1]))
        return serial

    def is_exchanged(self, index, link):
        """Whether an exchange can be done now."""
        if index >= len(self.flow[0]):
            return False
        hand = self.flow[2]
        if hand[0] == "still" or hand[1] != index:
            return True
        run, kinds = hand[2], link[1][3]
        if run[7] or len(kinds) != len(run[5]):
            return False
        tables = tuple((sort, kind[1], content) for (sort, _, content), kind in zip(run[5], kinds))
        return fits(link[1], begun(run[4], tables, run[6], link[1][2]))

    def holds(self, block, link):
        sieve, grant, table = link
        form = form_of(sieve, block["at"][1], block["long"])
        return form is not None and led_through(form, block["steps"], sure_places(sieve, grant, table)) == block["form"]

    def exchange(self, deed):
        is_done = self.is_exchanged(deed[1], deed[2])
        self.flow = dealt(self.flow, deed)
        for serial in sorted(self.kept) if is_done else ():
            block = self.kept[serial]
            if block["at"][0] == deed[1] and not (self.set["grain"] and self.holds(block, deed[2])):
                self.go(serial)
                self.tally["thrown"] += 1
                self.tale.append(("thrown", serial))

    def deal(self, deed):
        head = deed[0]
        if head == "exchange":
            self.exchange(deed)
        elif head in ("cell", "value", "add", "off"):
            self.flow = dealt(self.flow, deed)
        elif head == "drop":
            if self.at(*deed[1:]):
                self.go(self.at(*deed[1:]))
        elif head == "make":
            if deed[1] < len(self.flow[0]) and deed[2] < len(self.flow[0][deed[1]][0]) and not self.at(*deed[1:]):
                self.make(*deed[1:])
        elif head == "settings":
            self.set = dict(zip(NAMES, deed[1]))
            self.crowd(self.set["room"])
        else:
            if head == "cut" and self.flow[2][0] == "run":
                run = read_snapshot(write_snapshot(self.flow[2][2]))
                self.flow = self.flow[:2] + (("run", self.flow[2][1], run),) + self.flow[3:]
            self.kept, self.comes, self.came_from = {}, {}, 0

    def plain_step(self):
        _, index, run = self.flow[2]
        self.tale.append(("step", self.flow[5], index, run[3]))
        self.flow = flowed(self.flow, (), 1)
        self.tally["plain"] += 1
        self.came_from = 0

    def leap(self, deeds, steps):
        total = self.flow[5]
        for at, deed in deeds:
            if at == total:
                self.tale.append(("deed", deed))
                self.deal(deed)
        _, index, run = self.flow[2]
        links = dict(self.kept[self.came_from]["links"]) if self.set["chained"] and self.came_from else {}
        serial = links.get(run[3], 0) or self.at(index, run[3])
        if not serial:
            times = self.comes.pop((index, run[3]), 0) + 1
            if times <= self.set["heat"]:
                self.comes[index, run[3]] = times
                return self.plain_step()
            serial = self.make(index, run[3])
        if self.set["chained"] and self.came_from and run[3] not in links:
            block = self.kept[self.came_from]
            block["links"] = (block["links"] + [(run[3], serial)])[-4:]
            self.tale.append(("linked", self.came_from, run[3], serial))
        self.enter(serial, run, free_steps(self.flow, deeds, steps), run[3] in links)

    def enter(self, serial, run, free, is_linked):
        block = self.kept[serial]
        told = [number for number, boundary in enumerate(block["form"][3]) if boundary and 1 <= number <= free]
        if not told or (told[-1] < block["form"][1] and not self.set["short"]):
            return self.plain_step()
        self.tally["entered"] += 1
        self.tally["linked"] += is_linked
        block["last"] = self.tally["entered"]
        x, behind = passed(block["translation"], run, told[-1])
        number, why = block["translation"][1][x][:2]
        self.tale.append(("entered", serial, self.flow[5], number, why))
        self.tally["translated"] += number
        self.flow = flowed(self.flow, (), number)
        self.came_from = serial if why == "end" and behind[8] is None else 0
        if why == "fault":
            self.plain_step()

    def lead(self, deeds, steps):
        last = self.flow[5] + steps
        while self.flow[5] < last and self.flow[2][0] == "run":
            self.leap(deeds, last - self.flow[5])
        return self

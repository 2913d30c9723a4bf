"""Points 2 and 12: one source, by all ways of the program, comes to the same."""

import random
import unittest

from suresieves.certificates import certify_compiled, certify_flow, certify_form, certify_meant, certify_verdict
from suresieves.checker import accepts
from suresieves.compiling import compiled
from suresieves.console import fresh_console, told_all
from suresieves.errors import TooMany
from suresieves.flows import flow_of, flowed, is_link, link_of, steps_left, tables_of
from suresieves.forms import form_of, worked
from suresieves.inspector import steps_bound, sure_places, takes_table, verdict
from suresieves.judge import takes
from suresieves.known import are_so
from suresieves.listings import read_listing, show_listing, show_sieve, sieve_of
from suresieves.making import made
from suresieves.maps import passed
from suresieves.packets import grant_for
from suresieves.rewritings import better
from suresieves.runners import is_runner, led, shown, started
from suresieves.runs import begun, fits, one_step, run_on
from suresieves.snapshots import read_snapshot, write_snapshot
from suresieves.sources import meant, read_source, show_source
from tests import drawn, flowdraws, randoms

GRANT = randoms.GRANT
GRANT_LINE = "grant 0 16 1 " + " ".join(f"{sort} {may} {size}" for sort, may, size in GRANT[3])


def sieve_for(chance):
    """A drawn source and its sieve."""
    while True:
        source = randoms.source(chance)
        try:
            return source, compiled(source, GRANT)
        except TooMany:
            pass


class TestOneSource(unittest.TestCase):
    def check_run(self, sieve, table, bound, run, outcome):
        """The plain run: what is known is so at each place, and it ends as it is meant, within the bound."""
        self.assertTrue(fits(GRANT, run))
        while run[8] is None:
            self.assertTrue(are_so(table[run[3]], run))
            run = one_step(sieve, read_snapshot(write_snapshot(run)))
        self.assertEqual((run[8], run[4], run[5]), (("answer", outcome[0]),) + outcome[1:])
        self.assertLessEqual(run[7], bound)
        return run

    def check_blocks(self, chance, sieve, table, run, end):
        """Led by blocks alone, made better or not, it comes to the same run."""
        sure = sure_places(sieve, GRANT, table)
        while run[8] is None:
            form = form_of(sieve, run[3], chance.randint(1, 12))
            form = better(form, (), chance.choice(((), sure)))[0] if chance.random() < 0.7 else form
            translation = made(form, chance.randint(4, 12))
            self.assertTrue(takes(form, translation))
            x, behind = passed(translation, run, 12)
            self.assertEqual(worked(run, form, 12), (("done", form[1]), behind))
            self.assertEqual(translation[1][x][1], "end")
            run = behind
        self.assertEqual(run, end)

    def check_flow(self, chance, link, packet, tables, clock, end):
        """In a chain, plainly and by a runner, it has this end."""
        start = flow_of((link,), tables, ((clock, packet),))
        plain = flowed(start, (), 20000)
        word = end[8][1]
        verdict_told = ("passed", end[4]) if word == 1 else ("dropped", 0) if word == 0 else ("sent", 0, word, end[4])
        self.assertEqual((plain[3], plain[5], tables_of(plain)), ((verdict_told,), end[7], end[5]))
        self.assertLessEqual(plain[5], steps_left(start))
        runner = started(start, flowdraws.settings(chance))
        hidden = flowdraws.deeds(chance, 0, 20, flowdraws.hidden_deed)
        middle = led(runner, hidden, end[7] // 2)
        self.assertTrue(is_runner(shown(middle), middle))
        self.assertEqual(shown(led(middle, hidden, 20000)), plain)
        told = certify_flow((link,), tables, ((clock, packet),), runner[1], hidden, min(end[7], 400))
        self.assertTrue(accepts(told[0], told[1]))
        return plain

    def check_console(self, chance, source, packet, tables, clock, plain):
        """In the console, too."""
        lines = [GRANT_LINE, "source " + show_source(source), "link"]
        for sort, may, content in tables:
            numbers = content if sort == "array" else [number for pair in content for number in pair]
            lines.append(f"table {sort} {may} " + " ".join(str(number) for number in numbers))
        lines.append(f"packet {clock} " + " ".join(str(byte) for byte in packet))
        lines += ["settings " + " ".join(str(number) for number in flowdraws.settings(chance)), "go 3", "cut", "both 20000", "verdicts"]
        answers = told_all(fresh_console(), tuple(lines))[1]
        self.assertEqual(answers[2], "link 0")
        self.assertEqual(answers[-2], f"the same, {plain[5]} steps, 1 through, still")
        self.assertTrue(answers[-1].startswith(f"0: {plain[3][0][0]}"))

    def test_all_ways(self):
        chance, lengths = random.Random(79), []
        for _ in range(45):
            source, sieve = sieve_for(chance)
            self.assertEqual(read_source(show_source(source)), source)
            self.assertEqual(sieve_of(read_listing(show_sieve(sieve))), sieve)
            self.assertEqual(show_listing(sieve), show_sieve(sieve))
            word, table, bound = verdict(sieve, GRANT)
            self.assertEqual((word, bound), ("let by", steps_bound(sieve)))
            self.assertTrue(takes_table(sieve, GRANT, table))
            link = link_of(sieve, GRANT)
            self.assertTrue(is_link(link))
            for told in (certify_compiled(source, GRANT), certify_verdict(sieve, GRANT), certify_form(sieve, 0, 12)):
                self.assertTrue(accepts(told[0], told[1]))
            for _ in range(2):
                packet, tables, clock = randoms.packet(chance), randoms.tables(chance), randoms.word(chance)
                outcome = meant(source, packet, tables, clock)
                told = certify_meant(source, packet, tables, clock)
                self.assertTrue(accepts(told[0], told[1]))
                run = begun(packet, tables, clock, 1)
                end = self.check_run(sieve, table, bound, run, outcome)
                self.check_blocks(chance, sieve, table, run, end)
                plain = self.check_flow(chance, link, packet, tables, clock, end)
                self.check_console(chance, source, packet, tables, clock, plain)
                lengths.append(end[7])
        self.assertGreater(max(lengths), 100)


class TestNotLetBy(unittest.TestCase):
    def test_flawed_or_open_at_a_told_place(self):
        chance, seen = random.Random(80), set()
        for _ in range(120):
            sieve, grant = drawn.sieve(chance, 3), (0, chance.choice((2, 6, 12)), chance.randint(0, 1), drawn.KINDS)
            told = verdict(sieve, grant)
            seen.add(told[0])
            if told[0] == "let by":
                for _ in range(4):
                    end = run_on(sieve, drawn.beginning(chance, grant), told[2])
                    self.assertEqual(end[8][0], "answer")
                run = drawn.beginning(chance, grant)
                narrow = grant_for(run[4], run[5], run[9])
                self.assertTrue(fits(narrow, run))
                self.assertEqual(verdict(sieve, narrow)[0], "let by")
            else:
                self.assertEqual(told[0], "open")
                self.assertLess(told[1], len(sieve))
                self.assertIsNone(link_of(sieve, grant))
        self.assertEqual(seen, {"let by", "open"})

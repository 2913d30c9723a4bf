"""Certificates: claims that are so, with papers that are accepted."""

import random
import unittest

from suresieves.certificates import certify_better, certify_compiled, certify_flow, certify_form, certify_joined
from suresieves.certificates import certify_meant, certify_passed, certify_translation, certify_verdict
from suresieves.chains import joined
from suresieves.checker import accepts
from suresieves.compiling import compiled, does_serve
from suresieves.errors import NoBlock, NoSuchTable, NotServed, TooMany
from suresieves.flows import flow_of, flowed
from suresieves.forms import form_of
from suresieves.inspector import flaws, verdict
from suresieves.making import made
from suresieves.maps import passed
from suresieves.rewritings import better
from suresieves.runners import led, shown, started, tale, tally
from suresieves.sources import meant
from tests import drawn, flowdraws, randoms, soundforms
from tests.flowvalues import COUNT, COUNTING, LOOK, LOOKING, PASSING, TABLES
from tests.values import put

CONTRARY = {"flowed": "not flowed", "right translation": "wrong translation"}
SETTINGS = (12, 8, 0, 1, 1, 3, 8, 0, 0)
HIDDEN = (("drop", 0, 0), ("clear",), ("cut",), ("make", 0, 1), ("settings", SETTINGS))


class CertificateCase(unittest.TestCase):
    def certified(self, told, claim, paper=()):
        """What is told is this claim with this paper, is accepted, and its contrary is not."""
        self.assertEqual(told, (claim, paper))
        self.accepted(told)

    def accepted(self, told):
        claim, paper = told
        self.assertIs(accepts(claim, paper), True, repr(claim)[:500])
        if claim[0] in CONTRARY:
            self.assertIs(accepts((CONTRARY[claim[0]],) + claim[1:], paper), False)


class TestSources(CertificateCase):
    def test_meant_and_compiled(self):
        chance, compiled_ones = random.Random(75), 0
        for _ in range(60):
            source = randoms.source(chance)
            packet, tables, clock = randoms.packet(chance), randoms.tables(chance), randoms.word(chance)
            outcome = meant(source, packet, tables, clock)
            self.certified(certify_meant(source, packet, tables, clock), ("meant", source, packet, tables, clock, outcome))
            try:
                sieve = compiled(source, randoms.GRANT)
            except TooMany:
                with self.assertRaises(TooMany):
                    certify_compiled(source, randoms.GRANT)
            else:
                compiled_ones += 1
                self.certified(certify_compiled(source, randoms.GRANT), ("compiled", source, randoms.GRANT, sieve))
                self.assertEqual(certify_verdict(sieve, randoms.GRANT)[0][0], "let by")
        self.assertGreater(compiled_ones, 30)

    def test_last_errors(self):
        source = (("count", 0, ("number", 0)),)
        with self.assertRaises(NoSuchTable) as caught:
            certify_meant(source, (), (), 0)
        self.assertEqual(caught.exception.given, 0)
        self.assertFalse(does_serve(source, (0, 0, 0, ())))
        with self.assertRaises(NotServed):
            certify_compiled(source, (0, 0, 0, ()))


class TestVerdicts(CertificateCase):
    def test_each(self):
        chance, seen = random.Random(76), {"let by": 0, "left open": 0, "flawed": 0}
        for number in range(90):
            grant = (0, chance.choice((0, 5, 12)), chance.randint(0, 1), drawn.KINDS)
            sieve = drawn.sieve(chance, 4)
            if number % 4 == 0:
                sieve = put(sieve, 0, ("jump", 0))
            told, verdict_told = certify_verdict(sieve, grant), verdict(sieve, grant)
            seen[told[0][0]] += 1
            if verdict_told[0] == "let by":
                self.certified(told, ("let by", sieve, grant, verdict_told[2]), verdict_told[1])
            elif verdict_told[0] == "flaw":
                self.certified(told, ("flawed", sieve) + flaws(sieve)[0])
            else:
                self.certified(told, ("left open", sieve, grant) + verdict_told[1:3])
        self.assertGreater(min(seen.values()), 10)


class TestForms(CertificateCase):
    def test_form(self):
        for place in range(5):
            for limit in (1, 2, 12):
                self.certified(certify_form(LOOK, place, limit), ("formed", LOOK, place, limit, form_of(LOOK, place, limit)))
        for place in (5, 119):
            with self.assertRaises(NoBlock) as caught:
                certify_form(LOOK, place, 12)
            self.assertEqual(vars(caught.exception), {})

    def test_better_and_translation(self):
        chance = random.Random(77)
        for _ in range(40):
            form = soundforms.form(chance, 20)
            sure = tuple(sorted(chance.sample(range(120), 40)))
            kept = tuple(sorted(chance.sample(range(13), 4)))
            other, steps = better(form, kept, sure)
            self.certified(certify_better(form, kept, sure), ("rewritten", form, other, sure), steps)
            for one in (form, other):
                cells = chance.randint(4, 12)
                self.certified(certify_translation(one, cells), ("right translation", one, made(one, cells)))
                run, most = drawn.midway(chance, drawn.GRANT, one[0]), chance.randrange(13)
                told = certify_passed(made(one, cells), run, most)
                self.certified(told, ("passed", made(one, cells), run, most) + passed(made(one, cells), run, most))


class TestFlows(CertificateCase):
    def test_by_hand(self):
        chain, coming = (LOOKING, COUNTING), ((0, (5,)), (1, (6, 6)), (2, ()))
        told = certify_flow(chain, TABLES, coming, SETTINGS, (), 400)
        flow = flowed(flow_of(chain, TABLES, coming), (), 400)
        claim, legs = told
        self.assertEqual(claim, ("flowed", chain, TABLES, coming, (), 400, flow))
        self.assertEqual([leg[0] for leg in legs], ["block"] * 5)
        self.accepted(told)
        cold = certify_flow(chain, TABLES, coming, put(SETTINGS, 2, 9), (), 400)
        self.assertEqual(cold, (claim, (("step",),) * flow[5]))
        self.accepted(cold)

    def test_the_legs_are_those_of_a_runner(self):
        chance = random.Random(78)
        for _ in range(60):
            chain, tables, coming = flowdraws.chain(chance), drawn.tables(chance), flowdraws.arrivals(chance)
            settings, deeds = flowdraws.settings(chance), flowdraws.deeds(chance, 0, 40, flowdraws.any_deed)
            steps = chance.choice((0, 1, 10, 60))
            told = certify_flow(chain, tables, coming, settings, deeds, steps)
            runner = started(flow_of(chain, tables, coming), settings)
            end = led(runner, deeds, steps)
            claim, legs = told
            visible = tuple(timed for timed in deeds if timed[1][0] in ("cell", "value", "add", "off", "exchange"))
            self.assertEqual(claim, ("flowed", chain, tables, coming, visible, steps, shown(end)))
            self.assertEqual([leg[0] for leg in legs].count("step"), tally(end)[0])
            self.assertEqual([leg[0] for leg in legs].count("block"), tally(end)[3])
            events = [event[0] for event in tale(runner, deeds, steps) if event[0] in ("step", "entered")]
            self.assertEqual([{"step": "step", "block": "entered"}[leg[0]] for leg in legs], events)
            self.accepted(told)
            self.accepted((claim, (("step",),) * (claim[6][5])))

    def test_hidden_deeds_are_let(self):
        chain, coming = (PASSING, COUNTING), ((0, ()),) * 6
        deeds = tuple((at, deed) for at in range(0, 20, 4) for deed in HIDDEN) + ((20, ("cell", 0, 0, 5)), (20, ("cut",)))
        for steps in (0, 5, 30, 400):
            told = certify_flow(chain, TABLES, coming, SETTINGS, deeds, steps)
            flow = flowed(flow_of(chain, TABLES, coming), deeds, steps)
            self.assertEqual(told[0], ("flowed", chain, TABLES, coming, ((20, ("cell", 0, 0, 5)),), steps, flow))
            self.accepted(told)


class TestJoined(CertificateCase):
    def test_joined(self):
        self.certified(certify_joined(LOOK, COUNT), ("joined", LOOK, COUNT, joined(LOOK, COUNT)))
        with self.assertRaises(TooMany) as caught:
            certify_joined(COUNT * 39, COUNT)
        self.assertEqual(caught.exception.given, 117 + 39 + 28 + 3)

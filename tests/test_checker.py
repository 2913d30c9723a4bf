"""Point 63: which claims are accepted, with which papers."""

import random
import unittest

from suresieves.checker import accepts
from suresieves.flows import flow_of, flowed, link_of
from suresieves.forms import form_of
from suresieves.hosts import run_host
from suresieves.inspector import flaws, steps_bound, told_table, verdict
from suresieves.making import made
from suresieves.maps import entered, passed
from suresieves.rewritings import better, led_through, steps_of
from suresieves.runs import begun, run_on
from suresieves.snapshots import write_snapshot
from suresieves.sources import meant
from tests import drawn, flowdraws, soundforms
from tests.claimvalues import BETTER, BETTER_STEPS, BLOCK, CHAIN, COMING, COMPILED, DEEDS, FLOW, FORM, LEGS, LOOK_GRANT, LOOK_RUN
from tests.claimvalues import LOOK_TABLE, RIGHT, SOURCE, START, SURE, TRANSLATION, WRONG
from tests.flowvalues import COUNT, DROPPING, LOOK, LOOKING, PASS, PASSING, TABLES, WIDE
from tests.test_isrunner import NO_PART, at_path, part_at, paths_in
from tests.values import FORM as SMALL_FORM, STRANGE, put

# Of two that exclude one another the other one.
CONTRARY = {
    "run": "not run", "not run": "run", "flowed": "not flowed", "not flowed": "flowed", "right translation": "wrong translation",
    "wrong translation": "right translation",
}


class CheckerCase(unittest.TestCase):
    def accepted(self, claim, paper=()):
        self.assertIs(accepts(claim, paper), True, repr(claim)[:500])

    def refused(self, claim, paper=()):
        self.assertIs(accepts(claim, paper), False, repr(claim)[:500])


class TestEachKind(CheckerCase):
    def test_right_ones(self):
        self.assertEqual(len(RIGHT), 17)
        for claim, paper in RIGHT.values():
            self.accepted(claim, paper)
            self.assertIs(accepts(claim=claim, paper=paper), True)

    def test_another_paper(self):
        papers = STRANGE + ((), ((),), [], "", 0, None) + tuple(paper for _, paper in RIGHT.values())
        for name, (claim, paper) in RIGHT.items():
            for other in papers:
                if other != paper and not (name.endswith("flowed") and other == LEGS):
                    with self.subTest(name=name, paper=other):
                        self.refused(claim, other)

    def test_one_element_more_or_fewer(self):
        for claim, paper in RIGHT.values():
            for other in (claim + (0,), claim[:-1], claim[1:], claim[:1], claim + claim[-1:], list(claim), (claim,)):
                self.refused(other, paper)

    def test_another_name(self):
        for name, (claim, paper) in RIGHT.items():
            for other in tuple(RIGHT) + ("Run", "run ", "", "ran", b"run", None, 0, ("run",)):
                if other != name:
                    self.refused((other,) + claim[1:], paper)

    def test_contrary_ones(self):
        for name, other in CONTRARY.items():
            claim, paper = RIGHT[name]
            for told in (paper, (), LEGS, (START, entered(START), 12), (LOOK_RUN, entered(LOOK_RUN), 3)):
                self.refused((other,) + claim[1:], told)

    def test_no_claims(self):
        for value in STRANGE + ((), 0, ((),), ("run",)):
            for paper in STRANGE + ((), 0):
                self.refused(value, paper)


class TestSpoilt(CheckerCase):
    def paths(self, claim, chance):
        """Paths into a claim; of very many a part, all of the short ones among them."""
        paths = [path for path in paths_in(claim) if path]
        few = [path for path in paths if len(path) <= 2]
        longer = [path for path in paths if len(path) > 2]
        return few + chance.sample(longer, min(len(longer), 120))

    def is_free(self, name, path):
        """Within the FLOW that it is not, anything may stand."""
        return name == "not flowed" and path[0] == 6 and len(path) > 1

    def test_another_thing_at_each_place_within(self):
        chance = random.Random(65)
        for name, (claim, paper) in RIGHT.items():
            for path in self.paths(claim, chance):
                if not self.is_free(name, path):
                    self.refused(at_path(claim, path, chance.choice(NO_PART)), paper)
                    if len(path) == 1:
                        for part in NO_PART + (None, "", ()):
                            self.refused(at_path(claim, path, part), paper)

    def test_true_for_one(self):
        for name, (claim, paper) in RIGHT.items():
            for path in self.paths(claim, random.Random(66)):
                part = part_at(claim, path)
                if isinstance(part, int) and part in (0, 1) and not self.is_free(name, path):
                    self.refused(at_path(claim, path, bool(part)), paper)

    def test_tuples_within(self):
        """A list in the place of a tuple, and one element more."""
        for name, (claim, paper) in RIGHT.items():
            for path in self.paths(claim, random.Random(67)):
                part = part_at(claim, path)
                if isinstance(part, tuple) and not self.is_free(name, path):
                    self.refused(at_path(claim, path, list(part)), paper)
                    self.refused(at_path(claim, path, part + (None,)), paper)

    def test_papers(self):
        chance = random.Random(68)
        for name in ("let by", "faulty", "rewritten", "wrong translation", "flowed", "not flowed"):
            claim, paper = RIGHT[name]
            for path in self.paths(paper, chance):
                for part in NO_PART:
                    self.refused(claim, at_path(paper, path, part))
                part = part_at(paper, path)
                if isinstance(part, tuple):
                    self.refused(claim, at_path(paper, path, list(part)))
                    self.refused(claim, at_path(paper, path, part + (None,)))


class TestRuns(CheckerCase):
    def test_run_and_not_run(self):
        chance = random.Random(69)
        for _ in range(60):
            sieve = drawn.sieve(chance, 3)
            run = drawn.midway(chance, drawn.GRANT, chance.randrange(len(sieve) + 1))
            steps = chance.choice((0, 1, 2, 9, 20000))
            end = run_on(sieve, run, steps)
            others = [put(end, 7, end[7] + 1), put(end, 3, (end[3] + 1) % 121), run_on(sieve, run, steps + 1) if steps < 20000 else run]
            for told in [end] + others:
                is_so = told == end
                self.assertIs(accepts(("run", sieve, run, steps, told), ()), is_so)
                self.assertIs(accepts(("not run", sieve, run, steps, told), ()), not is_so)

    def test_bounds(self):
        for steps in (-1, 20001, 10 ** 100, True, None):
            for word in ("run", "not run"):
                self.refused((word, PASS, START, steps, START))


class TestSources(CheckerCase):
    def test_meant(self):
        outcome = meant(SOURCE, (5, 6), TABLES, 9)
        claim = RIGHT["meant"][0]
        for told in (put(outcome, 0, outcome[0] + 1), put(outcome, 1, (5,)), put(outcome, 2, TABLES), outcome[:2], outcome + (0,), None):
            self.refused(put(claim, 5, told))
        for told in (put(outcome, 2, put(outcome[2], 0, put(outcome[2][0], 1, True))),):
            self.refused(put(claim, 5, told))
        ones = ("meant", (("answer", ("number", 1)),), (1, 0), (), 0, (1, (1, 0), ()))
        self.accepted(ones)
        for told in ((True, (1, 0), ()), (1, (True, 0), ()), (1, (1, False), ()), (1, (1, 0), []), (1, [1, 0], ()), (1, (1, 0), (), 0)):
            self.refused(put(ones, 5, told))
        self.refused(put(claim, 3, TABLES[:1]))
        self.refused(put(claim, 3, ()))
        self.refused(put(claim, 4, 65536))
        self.accepted(("meant", (), (), (), 0, (0, (), ())))

    def test_compiled(self):
        claim = RIGHT["compiled"][0]
        for told in (COMPILED[:-1], COMPILED + (("answer", 0),), put(COMPILED, 0, ("set", 0, 1)), PASS):
            self.refused(put(claim, 3, told))
        for grant in (put(WIDE, 3, ()), put(WIDE, 3, (("array", 1, 3), ("pairs", 1, 3))), put(WIDE, 3, (("array", 1, 2), ("pairs", 0, 3)))):
            self.refused(put(claim, 2, grant))
        self.accepted(put(claim, 2, (0, 5, 0, WIDE[3])))
        many = (("answer", ("pair", ("number", 0))),) * 12
        self.refused(("compiled", many, WIDE, PASS))


class TestVerdicts(CheckerCase):
    def test_let_by(self):
        for steps, is_so in ((5, True), (6, True), (10 ** 300, True), (4, False), (0, False), (-1, False)):
            self.assertIs(accepts(("let by", LOOK, LOOK_GRANT, steps), LOOK_TABLE), is_so)
        self.refused(("let by", LOOK, WIDE, 5), told_table(LOOK, WIDE))
        self.refused(("let by", PASS, LOOK_GRANT, 5), LOOK_TABLE)
        for table in (LOOK_TABLE[:-1], LOOK_TABLE + (None,), put(LOOK_TABLE, 2, None), (None,) * 5, list(LOOK_TABLE)):
            self.refused(("let by", LOOK, LOOK_GRANT, 5), table)

    def test_faulty(self):
        run = begun((), TABLES, 0, 1)
        self.refused(("faulty", LOOK, LOOK_GRANT), run)
        self.refused(("faulty", PASS, WIDE), run)
        for told in (put(run, 4, (5,)), put(run, 9, 0), put(run, 7, 1), put(run, 5, ()), put(run, 8, ("fault", "packet")), None):
            self.refused(("faulty", LOOK, WIDE), told)
        self.accepted(("faulty", PASS[:1], WIDE), run)
        for sieve in ((("jump", 0),), (("again", 0, 1, 0), ("jump", 1))):
            self.refused(("faulty", sieve, WIDE), run)
        # 99 rounds of 200 steps, and one ahead; then two loops of their own up to the fault, the last step that counts.
        for pads, steps in (((97, 97), 20000), ((97, 98), 20001), ((1, 1), 19808)):
            sieve = (("begin", 0), ("begin", 1), ("set", 0, 0), ("again", 1, 98, 2), ("again", 0, 98, 1), ("begin", 2), ("again", 2, pads[0], 6),
                     ("begin", 3), ("again", 3, pads[1], 8), ("byte", 0, 0, 255))
            self.assertEqual(run_on(sieve, run_on(sieve, run, steps - 1), 1)[7:9], (steps, ("fault", "packet")))
            self.assertIs(accepts(("faulty", sieve, WIDE), run), steps <= 20000)

    def test_flawed(self):
        chance, flawed = random.Random(70), 0
        for _ in range(60):
            sieve = tuple(drawn.straight_row(chance) for _ in range(3)) + tuple(
                chance.choice((("jump", chance.randrange(7)), ("again", chance.randrange(2), 3, chance.randrange(7)), ("begin", 0))) for _ in range(4))
            told = flaws(sieve)
            flawed += bool(told)
            for place in range(7):
                for reason in ("far", "back", "begin", "crossed"):
                    self.assertIs(accepts(("flawed", sieve, place, reason), ()), told[:1] == ((place, reason),))
        self.assertGreater(flawed, 30)
        self.refused(("flawed", PASS, 0, "far"))

    def test_left_open(self):
        chance, seen = random.Random(71), {"open": 0, "let by": 0}
        for _ in range(60):
            sieve, grant = drawn.sieve(chance, 3), (0, chance.choice((0, 5, 12)), chance.randint(0, 1), drawn.KINDS)
            told = verdict(sieve, grant)
            seen[told[0]] += 1
            kinds = ("packet", "index", "handle", "grant", "table", "place")
            tried = {(chance.randrange(len(sieve)), chance.choice(kinds)) for _ in range(4)}
            if told[0] == "open":
                tried |= {told[1:3]} | {(told[1], chance.choice(kinds)), (told[1] + 1, told[2])}
            for place, kind in tried:
                self.assertIs(accepts(("left open", sieve, grant, place, kind), ()), told[:3] == ("open", place, kind))
            is_let_by = told[0] == "let by"
            self.assertIs(accepts(("let by", sieve, grant, steps_bound(sieve)), told_table(sieve, grant)), is_let_by)
            if is_let_by:
                for _ in range(5):
                    self.refused(("faulty", sieve, grant), drawn.beginning(chance, grant))
        self.assertGreater(min(seen.values()), 8)


class TestForms(CheckerCase):
    def test_formed(self):
        for place in range(6):
            for limit in range(0, 14):
                form = form_of(LOOK, place, limit) if 1 <= limit <= 12 else BLOCK
                for told in (BLOCK, form_of(LOOK, 2, 12), form_of(LOOK, 0, 2)):
                    self.assertIs(accepts(("formed", LOOK, place, limit, told), ()), 1 <= limit <= 12 and told == form)
        for place in (5, 119, 120, -1, 10 ** 50):
            self.refused(("formed", LOOK, place, 12, BLOCK))
            self.refused(("formed", LOOK, place, 12, None))
        full = PASS * 60
        self.accepted(("formed", full, 119, 1, form_of(full, 119, 1)))

    def test_rewritten(self):
        chance = random.Random(72)
        for _ in range(40):
            form = soundforms.form(chance, 15)
            sure = tuple(sorted(chance.sample(range(form[0], min(120, form[0] + 12)), 3))) if form[0] < 100 else ()
            other, steps = better(form, tuple(sorted(chance.sample(range(13), 4))), sure)
            self.accepted(("rewritten", form, other, sure), steps)
            self.accepted(("rewritten", form, form, sure), ())
            for told in (steps[:-1], steps + steps[-1:], (("ended",),) + steps):
                self.assertIs(accepts(("rewritten", form, other, sure), told), led_through(form, told, sure) == other)
            if steps:
                self.refused(("rewritten", other, form, sure), steps)
            for step in steps_of(form, sure)[:3]:
                self.accepted(("rewritten", form, led_through(form, (step,), sure), sure), (step,))
        self.refused(("rewritten", BLOCK, BETTER, ()), BETTER_STEPS)
        self.refused(("rewritten", BLOCK, BETTER, (3, 0)), BETTER_STEPS)
        self.refused(("rewritten", BLOCK, BETTER, SURE), [*BETTER_STEPS])
        self.refused(("rewritten", BLOCK, BLOCK, SURE), None)


class TestTranslations(CheckerCase):
    def test_right(self):
        self.accepted(("right translation", FORM, made(FORM, 4)))
        for form, translation in ((FORM, TRANSLATION), (BETTER, made(FORM, 4)), (FORM, WRONG), (BLOCK, TRANSLATION), (SMALL_FORM, TRANSLATION)):
            self.refused(("right translation", form, translation))

    def test_wrong(self):
        claim = ("wrong translation", FORM, WRONG)
        host = entered(START)
        any_host = (tuple(range(100, 112)), host[1][:30] + (4294967295,) * 82)
        for paper in ((START, host, 12), (START, any_host, 12), (put(START, 7, 99), host, 12), (START, host, 1), (START, host, 3)):
            self.accepted(claim, paper)
        for paper in (
            (START, host, 0), (put(START, 3, 1), host, 12), (put(START, 8, ("answer", 1)), host, 12), (START, host, 13), (START, host, -1), (START, host),
            (START, host, 12, 0), (START, put(host, 1, host[1][:111]), 12), (START, put(host, 1, put(host[1], 0, 1)), 12),
            (START, put(host, 1, put(host[1], 28, 3)), 12), (START, put(host, 1, put(host[1], 29, 0)), 12), (START, put(host, 1, put(host[1], 27, 1)), 12),
            (put(START, 6, 8), host, 12), (START, host, True), (), None,
        ):
            self.refused(claim, paper)
        for paper in ((START, host, most) for most in range(13)):
            self.refused(("wrong translation", FORM, made(FORM, 4)), paper)

    def test_wrong_in_each_way(self):
        """A bent DONE, WHY, PLACE, ANSWER, spot or row is seen."""
        rows, exits = made(FORM, 4)
        x = passed((rows, exits), START, 12)[0]
        for part, value in ((0, 2), (1, "most"), (2, 0), (3, None), (3, ("number", 7)), (4, (("number", 7),) * 8), (5, (("box", 0),) * 15 + (("number", 1),)),
                            (6, (("number", 1),) * 4)):
            bent = (rows, put(exits, x, put(exits[x], part, value)))
            self.accepted(("wrong translation", FORM, bent), (START, entered(START), 12))
            self.refused(("right translation", FORM, bent))

    def test_wrong_for_no_rows(self):
        """A bent exit of the first most is seen where MOST is 0."""
        rows, exits = made(FORM, 4)
        x = passed((rows, exits), START, 0)[0]
        bent = (rows, put(exits, x, put(exits[x], 2, 7)))
        self.accepted(("wrong translation", FORM, bent), (START, entered(START), 0))
        self.refused(("wrong translation", FORM, bent), (START, entered(START), 12))

    def test_never_both(self):
        """Of bent translations: what is right has no paper that shows it wrong."""
        chance, seen = random.Random(73), {True: 0, False: 0}
        for _ in range(150):
            form = soundforms.form(chance, 8)
            rows, exits = made(form, chance.randint(4, 6))
            rows = list(rows)
            at = chance.randrange(len(rows) - 1) if len(rows) > 1 else 0
            if rows[at][0] == "set":
                rows[at] = put(rows[at], 2, chance.choice((rows[at][2], 65535, 255)))
            elif rows[at][0] in ("add", "and", "or", "below", "same") and chance.random() < 0.5:
                rows[at] = put(rows[at], 2, 0)
            is_right = accepts(("right translation", form, (tuple(rows), exits)), ())
            for _ in range(6):
                run = put(drawn.midway(chance, drawn.GRANT, form[0]), 9, chance.randint(0, 1))
                boxes = entered(run)[1][:30] + tuple(chance.randint(0, 4294967295) for _ in range(82))
                paper = (run, (tuple(chance.randint(0, 99999) for _ in range(12)), boxes), chance.randrange(13))
                is_wrong = accepts(("wrong translation", form, (tuple(rows), exits)), paper)
                self.assertFalse(is_right and is_wrong)
                seen[is_wrong] += 1
        self.assertGreater(min(seen.values()), 20)

    def test_passed(self):
        for most in range(13):
            x, behind = passed(TRANSLATION, LOOK_RUN, most)
            self.accepted(("passed", TRANSLATION, LOOK_RUN, most, x, behind))
            for other in range(-1, len(TRANSLATION[1]) + 1):
                if other != x:
                    self.refused(("passed", TRANSLATION, LOOK_RUN, most, other, behind))
            self.refused(("passed", TRANSLATION, LOOK_RUN, most, x, put(behind, 7, behind[7] + 1)))
        for most in (-1, 13, None):
            for same in (0, 12):
                self.refused(("passed", TRANSLATION, LOOK_RUN, most) + passed(TRANSLATION, LOOK_RUN, same))
        numbers = set()
        for most in range(13):
            x, behind = passed(made(FORM, 4), START, most)
            numbers.add(x)
            if x in (0, 1):
                self.refused(("passed", made(FORM, 4), START, most, bool(x), behind))
        self.assertTrue({0, 1} & numbers)
        host, run, x = run_host(TRANSLATION, entered(LOOK_RUN), LOOK_RUN, 12)
        self.assertEqual(passed(TRANSLATION, LOOK_RUN, 12)[0], x)
        self.assertEqual(run[5], passed(TRANSLATION, LOOK_RUN, 12)[1][5])


class TestFlows(CheckerCase):
    CLAIM = RIGHT["flowed"][0]
    STEP = ("step",)

    def claim(self, word="flowed", **parts):
        names = ("chain", "tables", "coming", "deeds", "steps", "flow")
        told = dict(zip(names, self.CLAIM[1:]))
        told.update(parts)
        return (word,) + tuple(told.values())

    def test_steps_alone(self):
        start = flow_of(CHAIN, TABLES, COMING)
        for steps in range(20):
            flow = flowed(start, DEEDS, steps)
            for legs in (steps - 1, steps, steps + 1, flow[5]):
                self.assertIs(accepts(self.claim(steps=steps, flow=flow), (self.STEP,) * legs), max(legs, 0) == flow[5])
                self.assertIs(accepts(self.claim("not flowed", steps=steps, flow=put(flow, 5, 99)), (self.STEP,) * legs), max(legs, 0) == flow[5])

    def test_another_flow(self):
        for at, part in ((0, CHAIN[::-1]), (1, COMING), (2, ("still", TABLES)), (3, (("dropped", 0),)), (4, ((0,) * 5,) * 2), (5, 8), (5, True), (5, None),
                         (1, None), (2, None), (3, []), (0, "x")):
            flow = put(FLOW, at, part)
            self.refused(self.claim(flow=flow), LEGS)
            self.accepted(self.claim("not flowed", flow=flow), LEGS)
        for flow in (FLOW[:5], FLOW + (0,), list(FLOW), None, ()):
            self.refused(self.claim(flow=flow), LEGS)
            self.refused(self.claim("not flowed", flow=flow), LEGS)
        for word, flow in (("flowed", FLOW), ("not flowed", put(FLOW, 5, 8))):
            self.refused(self.claim(word, flow=flow), LEGS[:-1])
            self.refused(self.claim(word, flow=flow), LEGS + (self.STEP,))
            self.refused(self.claim(word, flow=flow), ())

    def test_bounds(self):
        still = flow_of((PASSING,), TABLES, ())
        for steps, is_so in ((0, True), (400, True), (401, False), (-1, False), (True, False)):
            self.assertIs(accepts(("flowed", (PASSING,), TABLES, (), (), steps, still), ()), is_so)
        for part, value in (("chain", ()), ("chain", CHAIN * 3), ("chain", (LOOKING[:2],)), ("tables", TABLES * 4), ("coming", COMING * 26),
                            ("coming", ((0, (256,)),)), ("deeds", DEEDS[::-1]), ("deeds", ((0, ("cut",)),)), ("deeds", DEEDS + ((6, ("clear",)),)),
                            ("deeds", DEEDS + ((6, ("make", 0, 0)),)), ("deeds", ((0, DEEDS[0][1]),) * 51)):
            self.refused(self.claim(**{part: value}), LEGS)
            self.refused(self.claim("not flowed", **{part: value, "flow": put(FLOW, 5, 9)}), LEGS)

    def test_hidden_deeds_are_none_of_a_claim(self):
        for deed in (("cut",), ("clear",), ("drop", 0, 0), ("make", 0, 0), ("settings", (12, 8, 0, 1, 1, 3, 8, 0, 1))):
            for word, flow in (("flowed", FLOW), ("not flowed", put(FLOW, 5, 9))):
                self.accepted(self.claim(word, flow=flow, deeds=DEEDS + ((99, ("off", 1, 5)),)), LEGS)
                self.refused(self.claim(word, flow=flow, deeds=DEEDS + ((99, deed),)), LEGS)

    def test_most_is_a_told_boundary(self):
        parts = (LOOKING,), TABLES, ((0, (5,)),), ()
        form, steps = form_of(LOOK, 0, 12), (("drop", 2),)
        told = led_through(form, steps, ())
        for most, total, is_so in ((1, 1, True), (2, 1, False), (2, 2, False), (3, 3, True)):
            leg = ("block", 12, steps, made(told, 4), most)
            claim = ("flowed",) + parts + (total, flowed(flow_of(*parts[:3]), (), total))
            self.assertIs(accepts(claim, (leg,)), is_so)

    def test_no_more_steps_than_are_left(self):
        parts = (PASSING, DROPPING), TABLES, ((0, ()), (0, ())), ()
        legs = (self.STEP, ("block", 12, (), made(form_of(PASS, 1, 12), 4), 1), ("block", 12, (), made(form_of(DROPPING[0], 0, 12), 4), 1),
                ("block", 12, (), made(form_of(PASS, 0, 12), 4), 2))
        for steps, is_so in ((3, False), (4, False), (5, True), (6, False)):
            claim = parts + (steps, flowed(flow_of(*parts[:3]), (), steps))
            self.assertIs(accepts(("flowed",) + claim, legs), is_so)
            self.refused(("not flowed",) + claim, legs)

    def test_no_leg_too_many(self):
        start = flow_of((PASSING,), TABLES, ((0, ()),))
        end = flowed(start, (), 5)
        for legs, is_so in ((0, False), (1, False), (2, True), (3, False)):
            self.assertIs(accepts(("flowed", (PASSING,), TABLES, ((0, ()),), (), 5, end), (self.STEP,) * legs), is_so)
            self.assertIs(accepts(("flowed", (PASSING,), TABLES, ((0, ()),), (), 1, flowed(start, (), 1)), (self.STEP,) * legs), legs == 1)
        block = ("block", 12, (), made(form_of(PASS, 0, 12), 4), 2)
        self.accepted(("flowed", (PASSING,), TABLES, ((0, ()),), (), 5, end), (block,))
        self.refused(("flowed", (PASSING,), TABLES, ((0, ()),), (), 5, end), (block, block))

    def test_blocks(self):
        """Block legs of PASS: the first one of two rows, with all boundaries told, or its middle one not."""
        chain, coming = (PASSING,), ((0, ()),)
        form = form_of(PASS, 0, 12)
        few, steps = better(form, (), ())
        end, middle = flowed(flow_of(chain, TABLES, coming), (), 2), flowed(flow_of(chain, TABLES, coming), (), 1)
        self.assertIsNone(few[3][1])
        for leg, total, is_so in (
            (("block", 12, (), made(form, 4), 2), 2, True), (("block", 2, (), made(form, 12), 2), 2, True), (("block", 12, (), made(form, 4), 1), 1, True),
            (("block", 12, steps, made(few, 4), 2), 2, True), (("block", 12, steps, made(few, 4), 1), 1, False),
            (("block", 12, (), made(few, 4), 2), 2, False), (("block", 12, steps, made(form, 4), 2), 2, False),
            (("block", 1, (), made(form, 4), 2), 2, False), (("block", 1, (), made(form_of(PASS, 0, 1), 4), 1), 1, True),
            (("block", 12, (), made(form, 4), 0), 2, False), (("block", 12, (), made(form, 4), 3), 2, False), (("block", 0, (), made(form, 4), 2), 2, False),
            (("block", 13, (), made(form, 4), 2), 2, False), (("block", 12, (), made(form, 4), 2), 1, False), (("block", 12, (), made(form, 4)), 2, False),
            (("block", 12, (), made(form, 4), 2, 0), 2, False), (["block", 12, (), made(form, 4), 2], 2, False), (("block", 12, [], made(form, 4), 2), 2, False),
            (("block", 12, (("fold", 0),), made(form, 4), 2), 2, False), (("block", 12, (), made(form, 4), True), 1, False),
            (("blocks", 12, (), made(form, 4), 2), 2, False), (("step",), 1, True), (("step", 0), 1, False), ("step", 1, False), ((), 1, False), (("steps",), 1, False),
        ):
            flow = end if total == 2 else middle
            self.assertIs(accepts(("flowed", chain, TABLES, coming, (), total, flow), (leg,)), is_so, leg)
        self.assertIs(accepts(("flowed", chain, TABLES, coming, (), 400, end), (("block", 12, (), made(form, 4), 1), ("step",))), True)

    def test_not_above_the_free_steps(self):
        chain, coming, deed = (PASSING,), ((0, ()),), ((1, ("cell", 0, 0, 4)),)
        end = flowed(flow_of(chain, TABLES, coming), deed, 2)
        block = ("block", 12, (), made(form_of(PASS, 0, 12), 4), 2)
        self.refused(("flowed", chain, TABLES, coming, deed, 2, end), (block,))
        self.accepted(("flowed", chain, TABLES, coming, deed, 2, end), (put(block, 4, 1), self.STEP))
        self.accepted(("flowed", chain, TABLES, coming, deed, 2, end), (put(block, 4, 1), put(put(block, 3, made(form_of(PASS, 1, 12), 4)), 4, 1)))

    def test_sure_places(self):
        """Steps that lean on a sure place are let where the link's table shows it."""
        form = form_of(LOOK, 0, 12)
        sure = better(form, (), (0,))
        flow = flowed(flow_of((LOOKING,), TABLES, ((0, (5,)),)), (), 3)
        leg = ("block", 12, sure[1], made(sure[0], 4), 3)
        self.assertIn(("sure", 1), sure[1])
        self.accepted(("flowed", (LOOKING,), TABLES, ((0, (5,)),), (), 3, flow), (leg,))
        # The table does not show a row that is never come to; so its place is none of the sure ones.
        never = (("jump", 2), ("byte", 1, 0, 0)) + LOOK[:2] + (put(LOOK[2], 4, 6),) + LOOK[3:]
        link = link_of(never, LOOK_GRANT)
        self.assertIsNone(link[2][1])
        flow = flowed(flow_of((link,), TABLES, ((0, (5,)),)), (), 2)
        form = form_of(never, 2, 12)
        for k, is_so in ((1, True), (0, False), (2, True), (3, False)):
            told = led_through(form, (("sure", k),), (2, 3)) or form
            leg = ("block", 12, (("sure", k),), made(told, 4), 1)
            claim = ("flowed", (link,), TABLES, ((0, (5,)),), (), 2, flow)
            self.assertIs(accepts(claim, (self.STEP, leg)), is_so)

    def test_never_both(self):
        chance = random.Random(74)
        for _ in range(40):
            chain, tables, coming = flowdraws.chain(chance), drawn.tables(chance), flowdraws.arrivals(chance, 3)
            deeds, steps = flowdraws.deeds(chance, 0, 20), chance.randint(0, 40)
            flow = flowed(flow_of(chain, tables, coming), deeds, steps)
            others = [flowed(flow_of(chain, tables, coming), (), steps), flowed(flow_of(chain, tables, coming), deeds, steps + 1)]
            legs = (self.STEP,) * flow[5]
            for told in [flow] + others:
                self.assertIs(accepts(("flowed", chain, tables, coming, deeds, steps, told), legs), told == flow)
                self.assertIs(accepts(("not flowed", chain, tables, coming, deeds, steps, told), legs), told != flow)


class TestJoinedAndSnapshots(CheckerCase):
    def test_joined(self):
        claim = RIGHT["joined"][0]
        for sieve in (COUNT, claim[3][:-1], claim[3] + (("answer", 0),), put(claim[3], 0, ("set", 0, 0))):
            self.refused(put(claim, 3, sieve))
        self.refused(("joined", COUNT, LOOK, claim[3]))
        self.refused(("joined", PASS * 60, PASS, PASS))

    def test_snapshot(self):
        writing = write_snapshot(START)
        for told in (writing + "\n", writing.replace("8*0", "0 7*0"), writing.replace("steps 0", "steps 1"), "", writing.split("\n")):
            self.refused(("snapshot", START, told))
        self.refused(("snapshot", put(START, 7, 1), writing))
        self.accepted(("snapshot", put(START, 7, 10 ** 99), writing.replace("steps 0", "steps 1" + "0" * 99)))
        self.assertEqual(DROPPING[0], (("answer", 0),))

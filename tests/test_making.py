"""Point 48: for each form, within any number of cells, a translation is made that the judge takes."""

import random

from suresieves.forms import form_of, is_form
from suresieves.hosts import is_translation
from suresieves.inspector import sure_places, told_table, verdict
from suresieves.judge import takes
from suresieves.making import made
from suresieves.rewritings import better
from tests import drawn, soundforms
from tests.test_judge import JudgeCase
from tests.test_rewritings import likely_block
from tests.test_worked import drawn_block
from tests.values import FORM

CHANGES = ("write", "fill", "change", "grow")
READINGS = ("byte", "pair", "cell", "find", "value")
ENDS = ("on", "jump", "when", "again", "answer")
# Behind each row's word, where it names cells.
CELLS_IN = {
    "set": (1,), "move": (1, 2), "take": (1,), "keep": (2,), "write": (1, 3), "fill": (1, 3), "change": (1, 3),
    "grow": (1,), "skip": (1,), "most": (), "leave": (),
}


def cells_named(translation):
    """The cells that rows and exits name."""
    rows, exits = translation
    named = set()
    for row in rows:
        places = CELLS_IN.get(row[0], (1, 2) if row[0] in READINGS else (1, 2, 3))
        named |= {row[place] for place in places}
    for told in exits:
        spots = [told[3]] + [spot for part in told[4:] for spot in part]
        named |= {spot[1] for spot in spots if spot is not None and spot[0] == "cell"}
    return named


class MadeCase(JudgeCase):
    def check(self, form, cells):
        """What is made is a translation, within the cells, that both judges take."""
        translation = made(form, cells)
        self.assertTrue(is_translation(translation))
        self.assertLess(max(cells_named(translation), default=0), cells)
        self.assertIs(self.both(form, translation), True, form)
        self.assertEqual(made(form=form, cells=cells), translation)
        return translation


class TestBlocks(MadeCase):
    def forms(self, chance):
        """The form of a block, and what comes of it by better."""
        place = chance.randrange(6)
        rows = likely_block(chance) if chance.random() < 0.4 else drawn_block(chance, 8)
        form = form_of((("jump", 0),) * place + rows, place, 12)
        kept = tuple(sorted(chance.sample(range(13), chance.randint(0, 13))))
        sure = tuple(sorted(chance.sample(range(18), chance.randint(0, 18))))
        return form, better(form, kept, sure)[0], better(form, (), sure)[0]

    def test_each_number_of_cells(self):
        chance, seen = random.Random(48), set()
        for seed in range(70):
            for form in self.forms(chance):
                seen |= {effect[0] for effect in form[2]} | {form[4][0]}
                for cells in range(4, 13):
                    self.check(form, cells)
                self.goes_right(form, made(form, 4), 2, seed)
                self.goes_right(form, made(form, chance.randint(5, 12)), 2, seed + 1)
        self.assertLessEqual(set(CHANGES + READINGS + ENDS + ("get", "slot", "number", "length", "clock", "one", "do")), seen)

    def test_sure_places_of_sieves(self):
        chance, sure_ones = random.Random(49), 0
        while sure_ones < 40:
            sieve, grant = drawn.sieve(chance, chance.randint(3, 9)), (4, 12, 1, drawn.KINDS)
            if verdict(sieve, grant)[0] != "let by":
                continue
            sure = sure_places(sieve, grant, told_table(sieve, grant))
            form = better(form_of(sieve, chance.randrange(len(sieve)), 12), (), sure)[0]
            sure_ones += any(effect[0] in READINGS + CHANGES and effect[-1] == 1 for effect in form[2])
            for cells in (4, 8, 12):
                self.check(form, cells)


class TestAnyForms(MadeCase):
    def test_small_ones(self):
        chance, seen = random.Random(50), set()
        for seed in range(150):
            form = soundforms.form(chance, chance.choice((3, 8, 20)))
            seen |= {effect[0] for effect in form[2]} | {form[4][0]}
            for cells in (4, chance.randint(5, 11), 12):
                self.check(form, cells)
            self.goes_right(form, made(form, chance.randint(4, 12)), 3, seed)
        self.assertLessEqual(set(CHANGES + READINGS + ENDS + ("one", "gone")), seen)

    def test_great_ones(self):
        chance = random.Random(51)
        for seed in range(25):
            form = soundforms.form(chance, 80)
            while len(form[2]) < 60:
                form = soundforms.form(chance, 80)
            for cells in (4, 5, 12):
                self.check(form, cells)
            self.goes_right(form, made(form, 4), 2, seed)

    def test_eighty_of_the_longest(self):
        for longest in (("one", "mix", 0), ("do", "left", 0, 0)):
            effects = [("get", 0), ("get", 1)]
            for k in range(2, 80):
                effects.append(longest[:2] + (k - 2,) + ((k - 1,) if longest[0] == "do" else ()))
            told = tuple(range(72, 80)), tuple(range(56, 72)), (None,) * 4
            start = (None,) * 8, (None,) * 16, (None,) * 4
            form = (108, 12, tuple(effects), (start,) + (told,) * 12, ("when", "bit", 78, 79, 119))
            self.assertTrue(is_form(form))
            for cells in range(4, 13):
                self.check(form, cells)
            self.goes_right(form, made(form, 4), 2)


class TestEnds(MadeCase):
    START = (None,) * 8, (None,) * 16, (None,) * 4

    def test_again_of_told_counters_and_those_at_the_start(self):
        for number in (None, 0, 1, 99, 100):
            for times in (1, 2, 100):
                effects = () if number is None else (("number", number),)
                value = None if number is None else 0
                last = self.START[:2] + ((None, value, None, None),)
                form = (7, 1, effects, (self.START, last), ("again", 1, times, 3))
                for cells in (4, 12):
                    self.goes_right(form, self.check(form, cells), 4)

    def test_when_of_numbers(self):
        for relation in drawn.RELATIONS:
            for one, two in ((3, 3), (3, 4), (4, 3), (65535, 0)):
                form = (7, 1, (("number", one), ("number", two)), (self.START,) * 2, ("when", relation, 0, 1, 90))
                self.goes_right(form, self.check(form, 4), 1)

    def test_nothing_to_be_done(self):
        self.check(FORM, 4)
        form = (119, 1, (), (self.START,) * 2, ("on",))
        self.assertEqual(len(self.check(form, 12)[0]), 2)

    def test_more_cells_need_no_more_rows(self):
        chance = random.Random(52)
        for _ in range(20):
            form = soundforms.form(chance, 60)
            few, many = made(form, 4), made(form, 12)
            self.assertLessEqual(len(many[0]), len(few[0]))
            self.assertTrue(takes(form, few) and takes(form, many))

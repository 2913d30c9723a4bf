"""Points 59 to 62: the console."""

import random
import unittest

from suresieves.console import fresh_console, said, told_all
from suresieves.errors import InvalidWriting
from suresieves.flows import flow_of, flowed
from suresieves.inspector import told_table
from suresieves.listings import read_listing, show_sieve, sieve_of
from suresieves.runners import deeded, fed_runner, is_runner, led, shown, started, tally
from tests import flowdraws
from tests.flowvalues import LOOK, PASS, PASSING, TABLES
from tests.values import STRANGE

FRESH = (((0, 256, 0, ()), None, (), (), (), (12, 8, 0, 1, 1, 3, 8, 0, 1), None), ())
PARTS = ("grant", "draft", "chain", "tables", "coming", "settings", "runner")
GRANT_LINE = "grant 0 64 1 array 1 2 pairs 1 3"
LOOK_LINE = "grant 1 64 0 array 1 2 pairs 1 3"
TABLE_LINES = ("table array 1 10 20", "table pairs 1 5 50 7 70")
LOOP = "sieve set r1 3 / begin 0 / addn r0 2 / again 0 4 2 / answer r0"
NOT = "not understood"


def part(console, name):
    return console[0][PARTS.index(name)]


def text_of(sieve):
    return "sieve " + show_sieve(sieve).replace("\n", " / ")


class ConsoleCase(unittest.TestCase):
    def after(self, *lines, console=None):
        """The console behind lines."""
        console = fresh_console() if console is None else console
        for line in lines:
            console = said(console, line)[0]
        return console

    def says(self, console, line, answer):
        """The console behind a line that is answered so."""
        with self.subTest(line=line):
            behind, told = said(console, line)
            self.assertEqual(told, answer)
            return behind

    def stays(self, console, line, answer):
        """A line that changes nothing at all, EARLIER neither."""
        with self.subTest(line=line):
            self.assertEqual(said(console, line), (console, answer))

    def linked(self, *packets):
        """A console with a chain of one link, two tables and packets that wait."""
        return self.after(LOOK_LINE, text_of(LOOK), "link", *TABLE_LINES, *packets)

    def begun(self, *packets, steps=0):
        return self.after(f"go {steps}", console=self.linked(*packets))


class TestFresh(ConsoleCase):
    def test_fresh(self):
        self.assertEqual(fresh_console(), FRESH)

    def test_what_it_shows(self):
        for line, answer in (
            ("show", "nothing there"), ("known 0", "nothing there"), ("link", "nothing there"), ("go 5", "no chain"), ("go 0", "no chain"),
            ("both 5", "no chain"), ("cell 0 0 1", "not begun"), ("value 0 0 1", "not begun"), ("add 0 0 1", "not begun"), ("off 0 0", "not begun"),
            ("clear", "not begun"), ("cut", "not begun"), ("verdicts", "none"), ("counts", "none"), ("tables", "none"), ("kept", "none"),
            ("tally", "0 plain, 0 translated, 0 made, 0 entered, 0 linked, 0 thrown, 0 crowded"), ("back", "nothing there"),
        ):
            self.stays(fresh_console(), line, answer)


class TestGrant(ConsoleCase):
    def test_granted(self):
        for line, grant in (
            ("grant 0 0 0", (0, 0, 0, ())), ("grant 256 256 1", (256, 256, 1, ())),
            ("grant 3 64 1 array 1 32", (3, 64, 1, (("array", 1, 32),))), ("grant 0 9 0 pairs 0 16", (0, 9, 0, (("pairs", 0, 16),))),
            ("grant 0 9 0 pairs 1 0 array 0 1", (0, 9, 0, (("pairs", 1, 0), ("array", 0, 1)))),
            ("grant 0 9 0" + " array 0 1" * 6, (0, 9, 0, (("array", 0, 1),) * 6)), ("  grant  0   9 0   ", (0, 9, 0, ())),
        ):
            self.assertEqual(part(self.says(fresh_console(), line, "granted"), "grant"), grant)

    def test_not_understood(self):
        for behind in ("", "0", "0 0", "0 0 2", "0 257 0", "5 4 0", "-1 4 0", "0 04 0", "0 +4 0", "0 4 0 0", "0 4 0 array", "0 4 0 array 1",
                       "0 4 0 array 2 1", "0 4 0 array 1 0", "0 4 0 array 1 33", "0 4 0 pairs 1 17", "0 4 0 table 1 1", "0 4 0 Array 1 1",
                       "0 4 0" + " array 0 1" * 7, "0 4 0 array 1 1 0", "0 4 zero", "0 4 0 array 01 1", "99999999999 4 0", "0 4 0,"):
            self.stays(fresh_console(), "grant " + behind, NOT)

    def test_a_grant_that_is_granted_already(self):
        console = self.after("grant 0 64 0")
        self.stays(console, "grant 0 64 0", "granted")
        self.stays(fresh_console(), "grant 0 256 0", "granted")

    def test_it_matters_for_words_alone(self):
        console = self.after("sieve pair r0 r1 3 / answer r0")
        self.assertEqual(said(self.after("grant 5 9 0", console=console), "link")[1], "link 0")
        self.assertEqual(said(self.after("grant 4 9 0", console=console), "link")[1], "2 rows, open at 0: packet")


class TestDrafts(ConsoleCase):
    def test_source(self):
        console = self.says(fresh_console(), "source answer ( byte 0 + 1 )", "11 rows, let by, at most 11 steps")
        self.assertEqual(part(console, "draft")[-2:], (("set", 0, 0), ("answer", 0)))
        for line, answer in (
            ("source ", "2 rows, let by, at most 2 steps"), ("source  ", "2 rows, let by, at most 2 steps"),
            ("source answer 1", "4 rows, let by, at most 4 steps"), ("  source answer 1", "4 rows, let by, at most 4 steps"),
            ("source answer\n1", "4 rows, let by, at most 4 steps"),
        ):
            self.says(fresh_console(), line, answer)

    def test_source_refused(self):
        deep = "( " * 6 + "1" + " + 1 )" * 6
        for line, answer in (
            ("source answer ( 1 +", "not read at 12"), ("source  answer", "not read at 7"), ("source answer 01", "not read at 7"),
            ("source 5", "not read at 0"), ("source let x = 1 ]", "not read at 10"), ("source leave", "too much"), ("source answer " + deep, "too much"),
            ("source count cell 0 0", "not served"), ("source set byte 0 = 1", "not served"), ("source answer value 0 0", "not served"),
            ("source " + "answer pair 0 " * 12, "too many rows: 158"), ("source " + "answer ( 1 + 1 ) " * 40, "too much"),
        ):
            for console in (fresh_console(), self.after("sieve answer r0")):
                self.stays(console, line, answer)

    def test_no_blank_behind(self):
        for line in ("source", "sieve", "source\nanswer 1", "sourceanswer 1", " source", "sieve\tanswer r0", "Source answer 1"):
            self.stays(fresh_console(), line, NOT)

    def test_sieve(self):
        for line, answer in (
            ("sieve answer r0", "1 rows, let by, at most 1 steps"), ("sieve jump 0", "1 rows, flaw at 0: far"),
            ("sieve jump end / end: / answer r1", "2 rows, let by, at most 2 steps"), (LOOP, "5 rows, let by, at most 13 steps"),
            ("sieve pair r0 r1 3 / answer r0", "2 rows, open at 0: packet"), ("sieve set r0 1", "1 rows, open at 0: place"),
            ("sieve count 0 r0 / answer r0", "2 rows, open at 0: table"), ("sieve   answer   r0  ", "1 rows, let by, at most 1 steps"),
            ("sieve again 0 5 1 / answer r0", "2 rows, flaw at 0: back"),
        ):
            console = self.says(fresh_console(), line, answer)
            self.assertEqual(part(console, "draft"), sieve_of(read_listing(line.lstrip()[6:].replace(" / ", "\n"))))

    def test_sieve_refused(self):
        for line, answer in (
            ("sieve ", "not read in line 0 at 0"), ("sieve answer", "not read in line 0 at 6"), ("sieve set r0 1 / answer r8", "not read in line 1 at 7"),
            ("sieve set r0 1 /  / answer r0", "not read in line 1 at 0"), ("sieve set r0 1 / / answer r0", "not read in line 1 at 0"),
            ("sieve set r0 1 /answer r0", "not read in line 0 at 9"), ("sieve answer r0 / ", "not read in line 1 at 0"),
            ("sieve answer r0 /", "not read in line 0 at 10"), ("sieve set r0 1\nanswer r0", "not read in line 0 at 7"),
            ("sieve jump away", "not laid"), ("sieve a: / answer r0 / a:", "not laid"), ("sieve a:", "not laid"),
            ("sieve " + " / ".join(["answer r0"] * 121), "not laid"), ("sieve " + " / ".join(["answer r0"] * 241), "not read in line 240 at 0"),
        ):
            for console in (fresh_console(), self.after("sieve answer r0")):
                self.stays(console, line, answer)

    def test_show(self):
        for listing in ("answer r0", "set r1 3\nbegin 0\naddn r0 2\nagain 0 4 2\nanswer r0"):
            console = self.after("sieve " + listing.replace("\n", " / "))
            self.stays(console, "show", listing)
        self.stays(self.after("source answer 7"), "show", "set r0 7\nanswer r0\nset r0 0\nanswer r0")
        self.stays(self.after("sieve answer r0"), "  show  ", "answer r0")

    def test_the_same_draft_changes_nothing(self):
        console = self.after(LOOP)
        self.stays(console, LOOP, "5 rows, let by, at most 13 steps")


class TestKnown(ConsoleCase):
    SIEVE = "sieve length r0 / whenn below r0 14 short / pair r2 r1 12 / whenn other r2 2048 short / answer r2 / short: / answer r1 / answer r3"

    def test_registers(self):
        console = self.after("grant 0 64 0", self.SIEVE)
        zeros = "\n".join(f"r{k} from 0 to 0" for k in range(8))
        self.stays(console, "known 0", zeros)
        self.stays(console, "known 2", zeros.replace("r0 from 0 to 0", "r0 from 14 to 64"))
        self.stays(console, "known 3", "\n".join(line for line in zeros.replace("r0 from 0 to 0", "r0 from 14 to 64").split("\n") if "r2" not in line))
        self.stays(console, "known 4", zeros.replace("r0 from 0 to 0", "r0 from 14 to 64").replace("r2 from 0 to 0", "r2 from 2048 to 2048"))
        self.stays(console, "known 6", "never come to")
        for line in ("known 7", "known 119"):
            self.stays(console, line, "nothing there")

    def test_nothing_known(self):
        rows = [f"ask r{k} clock r0" for k in range(8)] + ["answer r0"]
        console = self.after("sieve " + " / ".join(rows))
        self.stays(console, "known 8", "nothing known")
        self.stays(console, "known 7", "r7 from 0 to 0")

    def test_open_and_flawed_ones(self):
        self.stays(self.after("sieve pair r0 r1 3 / answer r1"), "known 1", "\n".join(f"r{k} from 0 to 0" for k in range(1, 8)))
        self.stays(self.after("sieve jump 0 / answer r0"), "known 0", "nothing there")
        self.stays(self.after("sieve jump 0 / answer r0"), "known 1", "nothing there")

    def test_beside_the_told_table(self):
        console = self.after(LOOK_LINE, text_of(LOOK))
        table = told_table(LOOK, part(console, "grant"))
        for place, state in enumerate(table):
            lines = [f"r{k} from {low} to {high}" for k, (low, high, *_) in enumerate(state[0]) if (low, high) != (0, 65535)]
            self.stays(console, f"known {place}", "\n".join(lines))

    def test_not_understood(self):
        for line in ("known", "known 120", "known 00", "known -1", "known 1 1", "known x", "known 01", "known r0"):
            self.stays(self.after(LOOP), line, NOT)


class TestLink(ConsoleCase):
    def test_up_to_four(self):
        console = self.after(GRANT_LINE, text_of(PASS))
        for index in range(4):
            console = self.says(console, "link", f"link {index}")
        self.assertEqual(part(console, "chain"), (PASSING,) * 4)
        self.stays(console, "link", "full")
        self.stays(self.after(text_of(LOOK), console=console), "link", "full")

    def test_not_let_by(self):
        for line, answer in (("sieve jump 0", "1 rows, flaw at 0: far"), ("sieve set r0 0", "1 rows, open at 0: place"),
                             (text_of(LOOK), "5 rows, open at 0: packet")):
            self.stays(self.after(GRANT_LINE, line), "link", answer)

    def test_begun(self):
        console = self.after("go 0", console=self.after(GRANT_LINE, text_of(PASS), "link"))
        self.stays(console, "link", "begun")
        self.stays(self.after("sieve jump 0", console=console), "link", "begun")

    def test_no_more_words(self):
        for line in ("link 0", "link x", "links", "Link", "link,"):
            self.stays(self.after(text_of(PASS)), line, NOT)


class TestTables(ConsoleCase):
    def test_tables(self):
        console = fresh_console()
        for index, (line, table) in enumerate((
            ("table array 1 5", ("array", 1, (5,))), ("table array 0" + " 65535" * 32, ("array", 0, (65535,) * 32)),
            ("table pairs 1", ("pairs", 1, ())), ("table pairs 0 1 2 3 4", ("pairs", 0, ((1, 2), (3, 4)))),
            ("table pairs 1 " + " ".join(str(k) for k in range(32)), ("pairs", 1, tuple((k, k + 1) for k in range(0, 32, 2)))),
            (" table  array  1  7 ", ("array", 1, (7,))),
        )):
            console = self.says(console, line, f"table {index}")
            self.assertEqual(part(console, "tables")[index], table)
        self.stays(console, "table array 1 5", "full")
        self.stays(console, "table array 1", NOT)

    def test_not_understood(self):
        for behind in ("", "array", "array 1", "array 2 1", "array 1 65536", "array 1 05", "array 1 -5", "array 1" + " 0" * 33, "pairs", "pairs 1 1",
                       "pairs 1 3 4 1 2", "pairs 1 3 4 3 2", "pairs 1 1 2 3", "pairs 2", "cells 1 1", "array 1 x", "pairs 1 1=2",
                       "pairs 1 " + " ".join(str(k) for k in range(34)), "1 array 5", "Array 1 5"):
            for console in (fresh_console(), self.begun()):
                self.stays(console, "table " + behind, NOT)

    def test_begun(self):
        self.stays(self.begun(), "table array 1 5", "begun")

    def test_shown(self):
        console = self.after("table array 1 10 20", "table pairs 0 5 50 7 70", "table pairs 1")
        self.stays(console, "tables", "0: array 1: 10 20\n1: pairs 0: 5=50 7=70\n2: pairs 1:")
        console = self.after(GRANT_LINE, text_of(PASS), "link", "table array 0 10 20", "table pairs 0 5 50", "packet 0 1")
        self.stays(console, "tables", "0: array 0: 10 20\n1: pairs 0: 5=50")
        self.stays(self.after("go 0", console=console), "tables", "0: array 1: 10 20\n1: pairs 1: 5=50")
        self.stays(self.after("go 0", "cell 0 0 9", console=console), "tables", "0: array 1: 9 20\n1: pairs 1: 5=50")


class TestPackets(ConsoleCase):
    def test_those_that_wait(self):
        console = fresh_console()
        for number, (line, arrival) in enumerate((("packet 0", (0, ())), ("packet 65535 255 0", (65535, (255, 0))),
                                                  ("packet 7" + " 1" * 256, (7, (1,) * 256)))):
            console = self.says(console, line, f"{number + 1} wait")
            self.assertEqual(part(console, "coming")[-1], arrival)

    def test_not_understood(self):
        for behind in ("", "65536", "-1", "0 256", "0 01", "00", "0 x", "7" + " 1" * 257, "0 1,2", "x"):
            for console in (fresh_console(), self.begun()):
                self.stays(console, "packet " + behind, NOT)
        self.stays(fresh_console(), "packet", NOT)

    def test_fifty(self):
        console = self.after(GRANT_LINE, text_of(PASS), "link", *TABLE_LINES)
        console, answers = told_all(console, ("packet 0 1",) * 50)
        self.assertEqual(answers[-1], "50 wait")
        self.stays(console, "packet 0 1", "full")
        begun = self.after("go 0", console=console)
        self.assertEqual(len(shown(part(begun, "runner"))[1]), 49)
        begun = self.says(begun, "packet 0 1", "50 wait")
        self.stays(begun, "packet 0 1", "full")
        self.says(self.after("go 1", console=begun), "packet 0 1", "full")
        self.says(self.after("go 2", console=begun), "packet 0 1", "50 wait")

    def test_of_a_begun_console(self):
        console = self.after("go 0", console=self.after(GRANT_LINE, text_of(PASS), "link", *TABLE_LINES))
        console = self.says(console, "packet 0 1", "0 wait")
        self.assertEqual(shown(part(console, "runner"))[2][:2], ("run", 0))
        console = self.says(console, "packet 3 2", "1 wait")
        self.assertEqual(part(console, "runner"), fed_runner(part(self.after("back", console=console), "runner"), ((3, (2,)),)))
        self.says(console, "go 99", "4 steps, 2 through, still")
        # A packet that fits no link is through at once.
        self.says(self.after("packet 0" + " 1" * 65, console=self.after("go 99", console=console)), "verdicts",
                  "0: passed 1\n1: passed 2\n2: passed" + " 1" * 65)


class TestSettings(ConsoleCase):
    def test_set(self):
        for settings in ((1, 1, 0, 0, 0, 0, 4, 0, 0), (12, 40, 9, 1, 1, 3, 12, 2, 1)):
            line = "settings " + " ".join(str(part_) for part_ in settings)
            for console in (fresh_console(), self.begun("packet 0 5"), self.begun("packet 0 5", steps=3)):
                behind = self.says(console, line, "set")
                self.assertEqual(part(behind, "settings"), settings)
                if part(console, "runner") is not None:
                    self.assertEqual(part(behind, "runner"), deeded(part(console, "runner"), ("settings", settings)))
                self.assertEqual(behind[1], console[1] + (console[0],))

    def test_not_understood(self):
        for behind in ("", "1 1 0 0 0 0 4 0", "1 1 0 0 0 0 4 0 0 0", "0 1 0 0 0 0 4 0 0", "13 1 0 0 0 0 4 0 0", "1 41 0 0 0 0 4 0 0", "1 1 10 0 0 0 4 0 0",
                       "1 1 0 2 0 0 4 0 0", "1 1 0 0 0 4 4 0 0", "1 1 0 0 0 0 3 0 0", "1 1 0 0 0 0 13 0 0", "1 1 0 0 0 0 4 3 0", "1 1 0 0 0 0 04 0 0",
                       "1 1 0 0 0 0 4 0 x"):
            self.stays(fresh_console(), "settings " + behind, NOT)


class TestGoing(ConsoleCase):
    def test_begun(self):
        console = self.linked("packet 0 5", "packet 1 6", "packet 2")
        behind = self.says(console, "go 0", "0 steps, 0 through, link 0 at 0")
        chain, tables, coming, settings = (part(console, name) for name in ("chain", "tables", "coming", "settings"))
        start = started(flow_of(chain, tables, coming), settings)
        self.assertEqual(part(behind, "runner"), start)
        self.stays(behind, "go 0", "0 steps, 0 through, link 0 at 0")
        for steps in (1, 3, 5, 8, 99, 20000):
            for one in (console, behind):
                told = self.says(one, f"go {steps}", self.stand(flowed(start[0], (), steps)))
                self.assertEqual(part(told, "runner"), led(start, (), steps))
                self.assertEqual(self.says(one, f"both {steps}", "the same, " + said(one, f"go {steps}")[1]), told)
        self.stays(self.after("go 99", console=console), "go 5", "9 steps, 3 through, still")
        self.stays(self.after("go 99", console=console), "both 5", "the same, 9 steps, 3 through, still")

    def stand(self, flow):
        where = "still" if flow[2][0] == "still" else f"link {flow[2][1]} at {flow[2][2][3]}"
        return f"{flow[5]} steps, {len(flow[3])} through, {where}"

    def test_nothing_comes(self):
        console = self.after("sieve answer r0", "link")
        behind = self.says(console, "go 5", "0 steps, 0 through, still")
        self.assertIsNotNone(part(behind, "runner"))
        self.says(console, "both 0", "the same, 0 steps, 0 through, still")

    def test_not_understood(self):
        for behind in ("", "x", "-1", "20001", "01", "1 1", "+1", "00", "100000"):
            for word in ("go ", "both "):
                for console in (fresh_console(), self.begun()):
                    self.stays(console, word + behind, NOT)


class TestDeeds(ConsoleCase):
    def started(self):
        return self.after("go 0", console=self.after(GRANT_LINE, text_of(PASS), "link", *TABLE_LINES, "packet 0 5", "packet 0 6"))

    def test_done(self):
        console = self.started()
        for line, deed in (("cell 0 1 9", ("cell", 0, 1, 9)), ("value 1 5 65535", ("value", 1, 5, 65535)), ("add 1 6 1", ("add", 1, 6, 1)),
                           ("off 1 7", ("off", 1, 7)), ("clear", ("clear",)), ("cut", ("cut",))):
            for one in (console, self.after("go 1", console=console), self.after("go 99", console=console)):
                behind = self.says(one, line, "done")
                self.assertEqual(part(behind, "runner"), deeded(part(one, "runner"), deed))

    def test_done_though_nothing_changes(self):
        console = self.started()
        for line in ("cell 0 2 9", "cell 0 0 10", "cell 5 0 9", "value 1 6 1", "value 0 5 1", "add 1 5 1", "add 0 0 0", "off 1 6", "off 2 0"):
            self.stays(console, line, "done")
        self.stays(self.after("go 1", console=console), "add 1 6 1", "done")

    def test_clear_and_cut_are_kept_as_earlier(self):
        console = self.started()
        for line in ("clear", "cut"):
            self.assertEqual(said(console, line), ((console[0], console[1] + (console[0],)), "done"))
            self.stays(fresh_console(), line, "not begun")

    def test_not_understood(self):
        for line in ("cell", "cell 0 0", "cell 0 0 1 1", "cell 6 0 1", "cell 0 32 1", "cell 0 0 65536", "cell 00 0 1", "value 0 1", "value 6 0 0",
                     "value 0 65536 0", "add 1 1", "add 6 1 1", "off 1", "off 1 1 1", "off 6 1", "off 1 x", "clear 0", "cut 1", "clear all",
                     "exchange 0 0", "drop 0 0", "make 0 0", "cell 0 0 x", "cell 0 -1 0"):
            for console in (fresh_console(), self.started()):
                self.stays(console, line, NOT)


class TestShown(ConsoleCase):
    def test_verdicts_and_counts(self):
        console = self.after(
            LOOK_LINE, text_of(LOOK), "link", "grant 2 64 0 array 1 2 pairs 1 3", "sieve length r0 / addn r0 65534 / answer r0", "link",
            "table array 1 10 20", "table pairs 1 1 1 7 70 9 1", "packet 0 7 8", "packet 0 7", "packet 0 9 1 1", "packet 0", "packet 0 8", "packet 0 9", "packet 0 1 2",
            "packet 0 1 2 3 4", "go 500")
        self.stays(console, "verdicts", "0: sent by 0 with 70: 7 8\n1: sent by 0 with 70: 7\n2: passed 9 1 1\n3: passed\n4: dropped by 0\n5: passed 9\n"
                                        "6: dropped by 1\n7: sent by 1 with 2: 1 2 3 4")
        self.stays(console, "counts", "0: 4 passed, 1 dropped, 2 sent, 1 left out, 34 steps\n1: 1 passed, 1 dropped, 1 sent, 2 left out, 9 steps")
        self.stays(self.begun(), "verdicts", "none")
        self.stays(self.after("go 0", console=self.after("sieve answer r0", "link")), "counts", "0: 0 passed, 0 dropped, 0 sent, 0 left out, 0 steps")

    def test_sent_without_a_byte(self):
        console = self.after("sieve set r0 65535 / answer r0", "link", "packet 0", "go 9")
        self.stays(console, "verdicts", "0: sent by 0 with 65535:")

    def test_kept_and_tally(self):
        console = self.after(LOOP, "link", "settings 12 8 0 1 1 2 8 0 0", "packet 0", "packet 0", "go 999")
        self.stays(console, "kept", "1: link 0, place 0, 4 rows\n2: link 0, place 2, 2 rows\n3: link 0, place 4, 1 rows")
        self.stays(console, "tally", "0 plain, 26 translated, 3 made, 12 entered, 7 linked, 0 thrown, 0 crowded")
        self.stays(self.after("clear", console=console), "kept", "none")

    def test_no_more_words(self):
        for word in ("show", "verdicts", "counts", "tables", "kept", "tally", "back", "new"):
            for line in (word + " 0", word + " x", word.upper(), word + "s", word + ","):
                self.stays(self.begun(), line, NOT)


class TestEarlier(ConsoleCase):
    def test_back(self):
        states = [fresh_console()]
        for number in range(1, 20):
            states.append(self.after(f"grant 0 {number} 0", console=states[-1]))
        console = states[-1]
        self.assertEqual(console[1], tuple(state[0] for state in states[:-1]))
        for state in states[-2::-1]:
            console = self.says(console, "back", "back")
            self.assertEqual(console, state)
        self.stays(console, "back", "nothing there")

    def test_twenty_at_most(self):
        console = fresh_console()
        for number in range(1, 31):
            console = self.after(f"packet 0 {number}", console=console)
            self.assertEqual(len(console[1]), min(number, 20))
        self.assertEqual([len(state[4]) for state in console[1]], list(range(10, 30)))
        for _ in range(20):
            console = self.says(console, "back", "back")
        self.assertEqual((len(part(console, "coming")), console[1]), (10, ()))

    def test_new(self):
        console = self.begun("packet 0 5")
        behind = self.says(console, "new", "new")
        self.assertEqual(behind, (FRESH[0], (console[1] + (console[0],))[-20:]))
        self.assertEqual(self.says(behind, "new", "new"), (FRESH[0], (behind[1] + (behind[0],))[-20:]))
        self.assertEqual(self.says(behind, "back", "back"), (console[0], console[1][-20:]))
        self.assertEqual(said(fresh_console(), "new"), ((FRESH[0], (FRESH[0],)), "new"))

    def test_back_ahead_of_the_beginning(self):
        console = self.after(LOOP, "link", "packet 0")
        behind = self.after("go 5", "go 5", "back", "back", console=console)
        self.assertEqual(behind, console)
        self.says(behind, "packet 0", "2 wait")

    def test_lines_that_change_nothing(self):
        console = self.after("go 5", console=self.after(LOOP, "link", "packet 0", "packet 0 1"))
        for line in ("show", "known 0", "verdicts", "counts", "tables", "kept", "tally", "go 0", "both 0", "link", "table array 1 1", "", "x", LOOP,
                     "grant 0 256 0", "cell 0 0 1", "source (", "sieve x"):
            self.assertEqual(said(console, line)[0], console, line)


class TestNotUnderstood(ConsoleCase):
    def test_lines(self):
        for line in ("", " ", "   ", "\n", "\t", "x", "help", "grant\t0 0 0", "go\n5", "?", "0", "Go 5", "go5", "sources x", "show\n", "\tshow", " x show", "-", "go -5"):
            for console in (fresh_console(), self.after(LOOP), self.begun()):
                self.stays(console, line, NOT)

    def test_blanks_ahead_and_behind(self):
        console = self.after(LOOP, "  link  ", " packet  0   1 ")
        self.says(console, "  go   5  ", "5 steps, 0 through, link 0 at 3")
        self.says(console, " back ", "back")

    def test_no_text(self):
        for value in STRANGE + ((), 0):
            if not isinstance(value, str):
                with self.assertRaises(InvalidWriting) as caught:
                    said(fresh_console(), value)
                self.assertEqual(vars(caught.exception), {"line": None, "place": None})


class TestToldAll(ConsoleCase):
    def test_all(self):
        lines = (GRANT_LINE, text_of(PASS), "link", *TABLE_LINES, "packet 0 5", "both 5", "verdicts", "nonsense")
        console, answers = told_all(fresh_console(), lines)
        self.assertEqual(console, self.after(*lines))
        self.assertEqual(answers[2:], ("link 0", "table 0", "table 1", "1 wait", "the same, 2 steps, 1 through, still", "0: passed 5", NOT))
        self.assertEqual(told_all(console=console, lines=()), (console, ()))
        self.assertEqual(len(told_all(console, ("show",) * 100)[1]), 100)

    def test_errors(self):
        for lines in (("show",) * 101, ["show"], "show", None, ("show", None), (b"show",), 0, {"show": 0}):
            with self.assertRaises(InvalidWriting) as caught:
                told_all(fresh_console(), lines)
            self.assertEqual(vars(caught.exception), {"line": None, "place": None})


class TestWhateverSettings(ConsoleCase):
    def line(self, chance):
        """A line that is said to a begun console, no settings among them."""
        return chance.choice((
            f"go {chance.choice((0, 1, 2, 7, 40))}", f"go {chance.choice((0, 1, 2, 7, 40))}", f"both {chance.choice((1, 5, 30))}",
            f"packet {chance.randint(0, 9)} " + " ".join(str(chance.randint(0, 9)) for _ in range(chance.randint(0, 4))),
            f"packet {chance.randint(0, 9)} " + " ".join(str(chance.randint(0, 9)) for _ in range(chance.randint(0, 4))),
            f"cell 0 {chance.randint(0, 2)} {chance.randint(0, 9)}", f"value 1 {chance.randint(5, 7)} {chance.randint(0, 9)}",
            f"add 1 {chance.randint(4, 9)} {chance.randint(0, 9)}", f"off 1 {chance.randint(4, 9)}", "clear", "cut", "verdicts", "counts", "tables", "back",
            "kept", "tally", "known 3", "show",
        ))

    def test_the_same_answers(self):
        chance, unlike = random.Random(64), 0
        chain = (LOOK_LINE, text_of(LOOK), "link", GRANT_LINE, LOOP, "link",
                 "source if byte 0 = 7 then count cell 0 0 set byte 0 = 9 answer 1 end count cell 0 1 answer value 1 byte 1", "link", *TABLE_LINES)
        for _ in range(25):
            lines = chain + tuple(self.line(chance) for _ in range(40))
            told = []
            for settings in ((12, 8, 0, 1, 1, 3, 8, 0, 1), flowdraws.settings(chance), flowdraws.settings(chance)):
                console = self.after("settings " + " ".join(str(number) for number in settings))
                console, answers = told_all(console, lines)
                told.append([answer for line, answer in zip(lines, answers) if line not in ("kept", "tally")])
                unlike += sum(answer.startswith("unlike") for answer in answers)
                runner = part(console, "runner")
                if runner is not None:
                    self.assertIs(is_runner(shown(runner), runner), True)
                    self.assertEqual(sum(tally(runner)[:2]), shown(runner)[5])
            self.assertEqual(told[0], told[1])
            self.assertEqual(told[0], told[2])
        self.assertEqual(unlike, 0)
        self.assertEqual(part(self.after(*TABLE_LINES), "tables"), TABLES)

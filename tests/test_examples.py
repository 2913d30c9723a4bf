"""The worked examples of the interface, as they stand there."""

from tests.sessions import SessionCase

RUNS = r"""
>>> from suresieves.packets import grant_for, is_grant, is_packet
>>> from suresieves.runs import answer_of, begun, does_hold, fault_of, fits, is_sieve, reckoned, run_on
>>> kinds = (("length", 0), ("whenn", "below", 0, 14, 5), ("pair", 2, 1, 12), ("whenn", "other", 2, 2048, 5), ("answer", 2), ("answer", 1))
>>> packet = (0, 0, 0, 0, 0, 0, 0, 0, 0, 0, 0, 0, 8, 0)
>>> start, short = begun(packet, (), 7, 0), begun((1, 2), (), 7, 0)
>>> [is_sieve(kinds), answer_of(kinds, start), answer_of(kinds, short), run_on(kinds, start, 3)[0], run_on(kinds, start, 3)[3], run_on(kinds, short, 9)[7]]
[True, ('answer', 2048), ('answer', 0), (14, 0, 2048, 0, 0, 0, 0, 0), 3, 3]
>>> [answer_of(kinds[2:], short), run_on(kinds[2:], short, 5)[3], run_on(kinds[2:], short, 5)[7], fault_of(kinds, start), fits((0, 64, 0, ()), start), fits(grant_for(packet, (), 0), short)]
[('fault', 'packet'), 0, 1, None, True, False]
>>> many = (("begin", 0), ("addn", 0, 3), ("again", 0, 4, 1), ("ask", 1, "ones", 0), ("count", 0, 1), ("answer", 0))
>>> end = run_on(many, begun((), (("array", 1, (5, 5, 5, 65535, 5)),), 0, 0), 100)
>>> [end[0][:2], end[2], end[5], end[7], end[8], answer_of(many, begun((), (("array", 1, (5, 5)),), 0, 0))]
[(15, 4), (4, 0, 0, 0), (('array', 1, (5, 5, 5, 65535, 6)),), 14, ('answer', 15), ('fault', 'index')]
>>> [reckoned("sub", 3, 5), reckoned("left", 32769, 17), does_hold("bit", 6, 9), does_hold("from", 5, 5)]
[65534, 2, False, True]
"""

SOURCES = r"""
>>> from suresieves.sources import is_source, meant, read_source, rounds_of, show_source, variables_in
>>> told = read_source("let x = byte 0 if x = 69 then repeat 3 let y = ( y + byte x ) let x = ( x - 60 ) end answer y end answer length")
>>> [is_source(told), variables_in(told), rounds_of(told), meant(told, (69, 1, 2, 3), (), 0)[0], meant(told, (69, 1, 2, 3, 4, 5, 6, 7, 8, 9), (), 0)[0], meant(told, (7,), (), 0)[0]]
[True, ('x', 'y'), 3, 0, 9, 1]
>>> show_source(told)
'let x = byte 0\nif x = 69 then\nrepeat 3\nlet y = ( y + byte x )\nlet x = ( x - 60 )\nend\nanswer y\nend\nanswer length'
>>> told[0]
('let', 'x', ('byte', ('number', 0)))
>>> [meant(read_source("set byte 1 = 300 count cell 0 9 count cell 0 0 answer has 1 5"), (1, 2), (("array", 1, (65535,)), ("pairs", 0, ((5, 7),))), 0)]
[(1, (1, 44), (('array', 1, (0,)), ('pairs', 0, ((5, 7),))))]
>>> read_source("answer ( 1 + )")
raises InvalidWriting(line=0, place=13)
"""

COMPILING = r"""
>>> from suresieves.compiling import compiled, does_serve
>>> short = read_source("answer ( byte 0 + 1 )")
>>> [does_serve(short, (0, 256, 0, ())), does_serve(read_source("count cell 0 0"), (0, 256, 0, (("array", 0, 4),))), answer_of(compiled(short, (0, 256, 0, ())), begun((255,), (), 0, 0))]
[True, False, ('answer', 256)]
"""

LISTINGS = r"""
>>> from suresieves.listings import can_be_laid, read_listing, show_listing, show_sieve, sieve_of
>>> listing = read_listing("length r0\nwhenn below r0 20 short\nbyte r1 r0 0\nanswer r1\nshort:\nset r1 0\nanswer r1")
>>> [listing[1], sieve_of(listing)[1], show_sieve(sieve_of(listing)[:2]), can_be_laid((("jump", "away"),))]
[('whenn', 'below', 0, 20, 'short'), ('whenn', 'below', 0, 20, 4), 'length r0\nwhenn below r0 20 4', False]
"""

INSPECTOR = r"""
>>> from suresieves.known import is_known, room_of, tight
>>> from suresieves.ways import reckoned_known, related_known
>>> from suresieves.inspector import flaws, steps_bound, sure_places, takes_table, told_table, verdict
>>> nothing = (0, 65535, 0, 0, None, None, None)
>>> five, size = (5, 5, 65535, 5, None, None, None), (0, 64, 0, 0, 0, None, None)
>>> [tight(size), tight((4, 9, 1, 0, None, None, None)), is_known((8, 8, 1, 1, None, None, None)), room_of(five, 14), room_of(size, 0), room_of(nothing, 256)]
[(0, 64, 65408, 0, 0, None, None), (4, 8, 65521, 0, None, None, None), False, 9, 0, None]
>>> [reckoned_known("add", five, five, 0)[:2], reckoned_known("and", nothing, five, 0), reckoned_known("add", (20, 64, 0, 0, 0, None, None), (65532, 65532, 65535, 65532, None, None, None), 20)[:5]]
[(10, 10), (0, 5, 65530, 0, None, None, None), (16, 60, 65472, 0, 4)]
>>> [related_known("below", nothing, size)[0][:2], related_known("below", nothing, size)[0][5], related_known("other", five, five), related_known("nobit", nothing, (6, 6, 65535, 6, None, None, None))[0]]
[(0, 63), 1, None, (0, 65529, 6, 0, None, None, None)]
>>> kinds = (("length", 0), ("whenn", "below", 0, 14, 5), ("pair", 2, 1, 12), ("whenn", "other", 2, 2048, 5), ("answer", 2), ("answer", 1))
>>> wide = (0, 64, 0, ())
>>> [verdict(kinds, wide)[0], verdict(kinds, wide)[2], told_table(kinds, wide)[2][3], told_table(kinds, wide)[4][0][2][:2], sure_places(kinds, wide, told_table(kinds, wide))]
['let by', 6, (14, 64), (2048, 2048), (2,)]
>>> [verdict((("pair", 2, 1, 12), ("answer", 2)), wide)[:3], verdict((("jump", 0),), wide), verdict((("set", 0, 1),), wide)[:3], takes_table(kinds, wide, (None, None, None, None, None, None))]
[('open', 0, 'packet'), ('flaw', 0, 'far'), ('open', 0, 'place'), False]
>>> many = (("begin", 0), ("addn", 0, 3), ("again", 0, 4, 1), ("ask", 1, "ones", 0), ("count", 0, 1), ("answer", 0))
>>> [verdict(many, (0, 0, 0, (("array", 1, 17),)))[2], verdict(many, (0, 0, 0, (("array", 1, 5),)))[:3], verdict(many, (0, 0, 0, (("array", 0, 17),)))[:3], steps_bound(many), flaws((("again", 0, 3, 0), ("begin", 1), ("again", 1, 2, 1), ("answer", 0)))]
[14, ('open', 4, 'index'), ('open', 4, 'table'), 14, ((2, 'begin'),)]
"""

FORMS = r"""
>>> from suresieves.blocks import block_at, is_ender
>>> from suresieves.forms import at_boundary, form_of, is_form, worked
>>> sieve = (("set", 1, 12), ("byte", 2, 1, 0), ("addn", 2, 1), ("keep", 2, 0), ("whenn", "same", 2, 7, 6), ("answer", 2), ("answer", 1))
>>> none, slots, turns = (None,) * 8, (None,) * 16, (None,) * 4
>>> form = form_of(sieve, 0, 12)
>>> [len(block_at(sieve, 0, 12)), block_at(sieve, 5, 3), is_ender(sieve[3]), form[:3], form[4]]
[5, (('answer', 2),), False, (0, 5, (('number', 12), ('byte', 0, 0, 1, 0), ('number', 1), ('do', 'add', 1, 2), ('number', 7))), ('when', 'same', 3, 4, 6)]
>>> [form[3][0] == (none, slots, turns), form[3][2][0][:3], form[3][4][1][:2], form[3][4] == form[3][5], is_form(form), is_form(form[:4])]
[True, (None, 0, 1), (3, None), True, True, False]
>>> run = ((0,) * 8, (0,) * 16, (0,) * 4, 0, (0,) * 12 + (6,), (), 0, 0, None, 0)
>>> how, after = worked(run, form, 12)
>>> [how, after[0][:3], after[1][0], after[3], after[7], after[8], worked(run, form, 3)[0], at_boundary(run, form, 3)[0][2]]
[('done', 5), (0, 12, 7), 7, 6, 5, None, ('most', 3), 7]
>>> short = run[:4] + ((0,) * 12,) + run[5:]
>>> [worked(short, form, 12)[0], worked(short, form, 12)[1][7], at_boundary(short, form, 1)[3], at_boundary(short, form, 2)]
[('fault', 1), 1, 1, None]
"""

REWRITINGS = r"""
>>> from suresieves.rewritings import better, led_through, rewritten, steps_of, sum_of
>>> [steps_of(form, ()), steps_of(form, (1,))[3:], rewritten(form, ("drop", 1), (1,)), better(form, (2, 3), ())[1], better(form, (), (1,))[1][3:]]
[(('drop', 2), ('drop', 3), ('drop', 4)), (('sure', 1),), None, (('drop', 4),), (('sure', 1), ('drop', 1))]
>>> fills = form_of((("set", 0, 3), ("set", 1, 9), ("fill", 1, 0, 0), ("cell", 2, 0, 0), ("answer", 2)), 0, 12)
>>> [fills[2], fills[4], steps_of(fills, ())]
[(('number', 3), ('number', 9), ('fill', 0, 0, 1, 2, 0), ('cell', 0, 0, 3, 0)), ('answer', 3), (('drop', 1), ('drop', 4), ('told', 3, 2))]
>>> [better(fills, (), ())[1], better(fills, (), ())[0][2][3], better(fills, (), ())[0][4], sum_of(fills) - sum_of(rewritten(fills, ("drop", 1), ())), led_through(fills, (("out", 3),), ())]
[(('drop', 1), ('drop', 4), ('told', 3, 2), ('drop', 3)), ('gone',), ('answer', 1), 1, None]
"""

MAPS = r"""
>>> from suresieves.hosts import host_row, is_translation, run_host
>>> from suresieves.maps import entered, left, passed
>>> none, slots, turns = (None,) * 8, (None,) * 16, (None,) * 4
>>> tiny = (5, 1, (("get", 1), ("get", 2), ("do", "add", 0, 1)), ((none, slots, turns), ((None, 2) + none[2:], slots, turns)), ("on",))
>>> rows = (("most", 0, 1), ("take", 0, 1), ("take", 1, 2), ("add", 2, 0, 1), ("set", 3, 65535), ("and", 2, 2, 3), ("leave", 0))
>>> exits = ((1, "end", 6, None, (None, ("cell", 2)) + none[2:], slots, turns), (0, "most", 5, None, none, slots, turns))
>>> run = ((0, 5, 65535, 0, 0, 0, 0, 0), (0,) * 16, (0,) * 4, 5, (1, 2, 3), (), 9, 40, None, 0)
>>> host = entered(run)
>>> [is_translation((rows, exits)), is_translation((rows[:6], exits)), host[1][:4], host[1][26:31], host_row(("sub", 0, 1, 2), ((0, 3, 5) + host[0][3:], host[1]))[0][:3]]
[True, False, (0, 5, 65535, 0), (0, 0, 3, 9, 0), (4294967294, 3, 5)]
>>> behind, same, number = run_host((rows, exits), host, run, 12)
>>> [behind[0][:4], same == run, number, left(run, (rows, exits), 0, behind)[:4] == ((0, 4, 65535, 0, 0, 0, 0, 0), run[1], run[2], 6), left(run, (rows, exits), 0, behind)[7]]
[(5, 65535, 4, 65535), True, 0, True, 41]
>>> [passed((rows, exits), run, 12) == (0, left(run, (rows, exits), 0, behind)), passed((rows, exits), run, 0) == (1, run)]
[True, True]
"""

JUDGE = r"""
>>> from suresieves.judge import bound_of, made_mark, takes, worth_of
>>> [made_mark((("box", 1), ("box", 2)), "add", 0, 1), made_mark((("box", 1), ("number", 65535)), "and", 0, 1), made_mark((("number", 3), ("number", 5)), "sub", 0, 1)]
[((('box', 1), ('box', 2), ('add', 0, 1)), 2), ((('box', 1), ('number', 65535)), 0), ((('number', 3), ('number', 5), ('number', 4294967294)), 2)]
>>> sums = (("box", 1), ("box", 25), ("add", 0, 1), ("number", 4), ("right", 2, 3), ("ones", 1, 1))
>>> [bound_of(sums, 2), bound_of(sums, 4), bound_of(sums, 5), worth_of(sums, 4, host, ()), takes(tiny, (rows, exits)), takes(tiny, (rows[:5] + rows[6:], exits))]
[65635, 4102, 7, 0, True, False]
"""

MAKING = r"""
>>> from suresieves.making import made
>>> from suresieves.forms import form_of
>>> sieve = (("set", 1, 12), ("byte", 2, 1, 0), ("addn", 2, 1), ("keep", 2, 0), ("whenn", "same", 2, 7, 6), ("answer", 2), ("answer", 1))
>>> form, end = form_of(sieve, 0, 12), form_of(sieve, 5, 12)
>>> few, last = made(form, 4), made(end, 4)
>>> [takes(form, few), takes(end, last), takes(tiny, made(tiny, 4)), takes(end, few)]
[True, True, True, False]
>>> running = ((0,) * 8, (0,) * 16, (0,) * 4, 0, (0,) * 12 + (6,), (), 0, 0, None, 0)
>>> [few[1][passed(few, running, most)[0]][:2] for most in (0, 2, 5, 12)]
[(0, 'most'), (2, 'most'), (5, 'end'), (5, 'end')]
>>> number, after = passed(few, running, 12)
>>> [after[0][:3], after[1][0], after[3], after[7], few[1][passed(few, running[:4] + ((0,) * 12,) + running[5:], 12)[0]][:3], passed(last, after[:3] + (5,) + after[4:], 1)[1][8]]
[(0, 12, 7), 7, 6, 5, (1, 'fault', 1), ('answer', 7)]
"""

FLOWS = r"""
>>> from suresieves.flows import are_deeds, are_settings, fed, flow_of, flowed, free_steps, is_link, link_of, tables_of
>>> kinds = (("array", 1, 2),)
>>> look = (("length", 0), ("whenn", "below", 0, 3, 7), ("set", 1, 0), ("byte", 2, 1, 2), ("whenn", "same", 2, 7, 9), ("addn", 2, 100), ("answer", 2), ("set", 3, 0), ("answer", 3), ("count", 0, 1), ("set", 3, 1), ("answer", 3))
>>> mark = (("set", 0, 0), ("set", 1, 9), ("write", 1, 0, 0), ("set", 2, 1), ("count", 0, 2), ("answer", 2))
>>> chain = (link_of(look, (0, 10, 0, kinds)), link_of(mark, (3, 10, 1, kinds)))
>>> [is_link(chain[0]), is_link(chain[0][:2]), link_of(mark, (0, 10, 1, kinds)), link_of(mark, (3, 10, 0, kinds))]
[True, False, None, None]
>>> flow = flow_of(chain, (("array", 1, (0, 0)),), ((0, (1, 2)), (0, (1, 2, 7)), (0, (1, 2, 5))))
>>> end = flowed(flow, (), 100)
>>> [end[3], end[4], end[5], end[2], flow[1], flow[2][:2]]
[(('dropped', 0), ('passed', (9, 2, 7)), ('sent', 0, 105, (1, 2, 5))), ((1, 1, 1, 0, 19), (1, 0, 0, 0, 6)), 25, ('still', (('array', 1, (1, 1)),)), ((0, (1, 2, 7)), (0, (1, 2, 5))), ('run', 0)]
>>> [tables_of(flowed(flow, ((9, ("cell", 0, 0, 5)),), 100)), tables_of(flowed(flow, ((10, ("cell", 0, 0, 5)),), 100)), flowed(flow, ((5, ("exchange", 0, chain[1])),), 100) == end, flowed(flow, ((5, ("exchange", 1, chain[0])),), 100)[3][1]]
[(('array', 1, (6, 1)),), (('array', 1, (5, 1)),), True, ('passed', (1, 2, 7))]
>>> [free_steps(flow, ((0, ("cut",)), (3, ("clear",))), 100), free_steps(end, (), 9), fed(end, ((0, (4,)),))[2][:2], are_deeds(((3, ("clear",)), (0, ("cut",)))), are_settings((12, 8, 0, 1, 1, 2, 8, 0, 0))]
[3, 0, ('run', 0), False, True]
"""

CHAINS = r"""
>>> from suresieves.chains import joined
>>> both = joined((("set", 1, 1), ("answer", 1)), (("answer", 0),))
>>> [both[:3], len(both), answer_of(both, begun((), (), 0, 0)), run_on(both, begun((), (), 0, 0), 100)[7], joined((("jump", 1), ("answer", 0)), both)[0]]
[(('set', 1, 1), ('whenn', 'same', 1, 1, 3), ('answer', 1)), 32, ('answer', 0), 31, ('jump', 1)]
"""

RUNNERS = r"""
>>> from suresieves.runners import is_runner, kept, leap, led, links, shown, started, tale, tally
>>> settings = (12, 8, 0, 1, 1, 2, 8, 0, 0)
>>> through = led(started(flow, settings), (), 100)
>>> [shown(through) == end, tally(through), is_runner(end, through), is_runner(flow, through), links(through)]
[True, (0, 25, 6, 9, 1, 0, 0), True, False, ((1, 7, 2), (1, 2, 3), (3, 9, 4), (3, 5, 6))]
>>> kept(through)
((1, 0, 0, 2), (2, 0, 7, 2), (3, 0, 2, 3), (4, 0, 9, 3), (5, 1, 0, 6), (6, 0, 5, 2))
>>> tale(started(flow, settings), (), 5)
(('made', 1, 0, 0, 2), ('entered', 1, 0, 2, 'end'), ('made', 2, 0, 7, 2), ('linked', 1, 7, 2), ('entered', 2, 2, 2, 'end'), ('step', 4, 0, 0))
>>> [tale(started(flow, (12, 8, 0, 1, 1, 1, 8, 0, 0)), (), 1), tale(through, ((25, ("clear",)),), 9)]
[(('made', 1, 0, 0, 2), ('entered', 1, 0, 1, 'most')), ()]
"""

SNAPSHOTS = r"""
>>> from suresieves.snapshots import read_snapshot, write_snapshot
>>> write_snapshot(flow[2][2]).splitlines()
['steps 0', 'place 0', 'end none', 'clock 0', 'writable 0', 'registers 8*0', 'slots 16*0', 'counters 4*0', 'packet 1 2', 'array 1: 2*0']
>>> read_snapshot(write_snapshot(flow[2][2])) == flow[2][2]
True
>>> read_snapshot("steps 0\nplace 00")
raises InvalidSnapshot(line=1)
"""

CONSOLE = r"""
>>> from suresieves.console import fresh_console, said, told_all
>>> lines = ("grant 0 64 0 array 1 2", "source if byte 0 = 7 then count cell 0 0 answer 1 end count cell 0 1 answer 0", "link", "table array 1 0 0")
>>> console, answers = told_all(fresh_console(), lines)
>>> answers
('granted', '20 rows, let by, at most 20 steps', 'link 0', 'table 0')
>>> later, answers = told_all(console, ("packet 0 7 1", "packet 0 9", "packet 0", "both 1000", "verdicts", "counts", "tables", "tally"))
>>> answers[:5]
('1 wait', '2 wait', '3 wait', 'the same, 35 steps, 3 through, still', '0: passed 7 1\n1: dropped by 0\n2: dropped by 0')
>>> answers[5:7]
('0: 1 passed, 2 dropped, 0 sent, 0 left out, 35 steps', '0: array 1: 1 2')
>>> [said(later, "back")[1], said(later, "go")[1], said(fresh_console(), "go 5")[1], said(fresh_console(), "source answer ( 1 +")[1], said(fresh_console(), "sieve jump 0")[1], said(fresh_console(), "sieve pair r0 r1 3 / answer r0")[1]]
['back', 'not understood', 'no chain', 'not read at 12', '1 rows, flaw at 0: far', '2 rows, open at 0: packet']
"""


class TestExamples(SessionCase):
    def test_sessions(self):
        names = {}
        for text in (RUNS, SOURCES, COMPILING, LISTINGS, INSPECTOR, FORMS, REWRITINGS, MAPS, JUDGE, MAKING,
                     FLOWS, CHAINS, RUNNERS, SNAPSHOTS, CONSOLE):
            self.go_through(text, names)

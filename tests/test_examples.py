"""The worked examples of the interface, as they stand there."""

from tests.sessions import SessionCase

RUNS = r"""
>>> from suresieves.packets import grant_for, is_grant, is_packet
>>> from suresieves.runs import answer_of, begun, does_hold, fault_of, fits, is_sieve, reckoned, run_on
>>> kinds = (("length", 0), ("whenn", "below", 0, 14, 5), ("pair", 2, 1, 12), ("whenn", "other", 2, 2048, 5), ("answer", 2), ("answer", 1))
>>> packet = (0, 0, 0, 0, 0, 0, 0, 0, 0, 0, 0, 0, 8, 0)
>>> start, short = begun(packet, (), 7, 0), begun((1, 2), (), 7, 0)
>>> [is_sieve(kinds), answer_of(kinds, start), answer_of(kinds, short), run_on(kinds, start, 3)[0], run_on(kinds, start, 3)[3], run_on(kinds, short, 9)[7]]
[True, ('answer', 2048), ('answer', 0), (14, 0, 2048, 0, 0, 0, 0, 0), 3, 3]
>>> [answer_of(kinds[2:], short), run_on(kinds[2:], short, 5)[3], run_on(kinds[2:], short, 5)[7], fault_of(kinds, start), fits((0, 64, 0, ()), start), fits(grant_for(packet, (), 0), short)]
[('fault', 'packet'), 0, 1, None, True, False]
>>> many = (("begin", 0), ("addn", 0, 3), ("again", 0, 4, 1), ("ask", 1, "ones", 0), ("count", 0, 1), ("answer", 0))
>>> end = run_on(many, begun((), (("array", 1, (5, 5, 5, 65535, 5)),), 0, 0), 100)
>>> [end[0][:2], end[2], end[5], end[7], end[8], answer_of(many, begun((), (("array", 1, (5, 5)),), 0, 0))]
[(15, 4), (4, 0, 0, 0), (('array', 1, (5, 5, 5, 65535, 6)),), 14, ('answer', 15), ('fault', 'index')]
>>> [reckoned("sub", 3, 5), reckoned("left", 32769, 17), does_hold("bit", 6, 9), does_hold("from", 5, 5)]
[65534, 2, False, True]
"""

SOURCES = r"""
>>> from suresieves.sources import is_source, meant, read_source, rounds_of, show_source, variables_in
>>> told = read_source("let x = byte 0 if x = 69 then repeat 3 let y = ( y + byte x ) let x = ( x - 60 ) end answer y end answer length")
>>> [is_source(told), variables_in(told), rounds_of(told), meant(told, (69, 1, 2, 3), (), 0)[0], meant(told, (69, 1, 2, 3, 4, 5, 6, 7, 8, 9), (), 0)[0], meant(told, (7,), (), 0)[0]]
[True, ('x', 'y'), 3, 0, 9, 1]
>>> show_source(told)
'let x = byte 0\nif x = 69 then\nrepeat 3\nlet y = ( y + byte x )\nlet x = ( x - 60 )\nend\nanswer y\nend\nanswer length'
>>> told[0]
('let', 'x', ('byte', ('number', 0)))
>>> [meant(read_source("set byte 1 = 300 count cell 0 9 count cell 0 0 answer has 1 5"), (1, 2), (("array", 1, (65535,)), ("pairs", 0, ((5, 7),))), 0)]
[(1, (1, 44), (('array', 1, (0,)), ('pairs', 0, ((5, 7),))))]
>>> read_source("answer ( 1 + )")
raises InvalidWriting(line=0, place=13)
"""

COMPILING = r"""
>>> from suresieves.compiling import compiled, does_serve
>>> short = read_source("answer ( byte 0 + 1 )")
>>> [does_serve(short, (0, 256, 0, ())), does_serve(read_source("count cell 0 0"), (0, 256, 0, (("array", 0, 4),))), answer_of(compiled(short, (0, 256, 0, ())), begun((255,), (), 0, 0))]
[True, False, ('answer', 256)]
"""

LISTINGS = r"""
>>> from suresieves.listings import can_be_laid, read_listing, show_listing, show_sieve, sieve_of
>>> listing = read_listing("length r0\nwhenn below r0 20 short\nbyte r1 r0 0\nanswer r1\nshort:\nset r1 0\nanswer r1")
>>> [listing[1], sieve_of(listing)[1], show_sieve(sieve_of(listing)[:2]), can_be_laid((("jump", "away"),))]
[('whenn', 'below', 0, 20, 'short'), ('whenn', 'below', 0, 20, 4), 'length r0\nwhenn below r0 20 4', False]
"""

KNOWN = r"""
>>> from suresieves.known import is_known, room_of, tight
>>> nothing = (0, 65535, 0, 0, None, None, None)
>>> five, size = (5, 5, 65535, 5, None, None, None), (0, 64, 0, 0, 0, None, None)
>>> [tight(size), tight((4, 9, 1, 0, None, None, None)), is_known((8, 8, 1, 1, None, None, None)), room_of(five, 14), room_of(size, 0), room_of(nothing, 256)]
[(0, 64, 65408, 0, 0, None, None), (4, 8, 65521, 0, None, None, None), False, 9, 0, None]
"""


class TestExamples(SessionCase):
    def test_sessions(self):
        names = {}
        for text in (RUNS, SOURCES, COMPILING, LISTINGS, KNOWN):
            self.go_through(text, names)

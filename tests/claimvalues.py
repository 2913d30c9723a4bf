"""For each kind of claim one that is so, with its paper."""

from suresieves.chains import joined
from suresieves.compiling import compiled
from suresieves.flows import flow_of, flowed
from suresieves.forms import form_of
from suresieves.inspector import told_table
from suresieves.making import made
from suresieves.maps import entered, passed
from suresieves.rewritings import better
from suresieves.runs import begun, run_on
from suresieves.snapshots import write_snapshot
from suresieves.sources import meant, read_source
from tests.flowvalues import COUNT, COUNTING, LOOK, LOOKING, TABLES, WIDE
from tests.values import put

START = begun((5, 6), TABLES, 9, 1)
SOURCE = read_source("let x = byte 0 if x = 5 then set value 1 5 = 8 count cell 0 1 answer ( x + clock ) end answer cell 0 0")
COMPILED = compiled(SOURCE, WIDE)
LOOK_GRANT = LOOKING[1]
LOOK_TABLE = told_table(LOOK, LOOK_GRANT)
SURE = (0, 3)
FORM = form_of(COUNT, 0, 12)
BLOCK = form_of(LOOK, 0, 12)
BETTER, BETTER_STEPS = better(BLOCK, (), SURE)
TRANSLATION = made(BETTER, 5)
# A translation that counts nothing; in a run whose cell is counted that is seen.
WRONG = (tuple(("set", 0, 7) if row[0] == "grow" else row for row in made(FORM, 4)[0]), made(FORM, 4)[1])
LOOK_RUN = begun((5, 6), TABLES, 9, 0)
CHAIN = (LOOKING, COUNTING)
COMING = ((0, (5,)), (3, (6, 6)))
DEEDS = ((2, ("cell", 0, 0, 3)), (5, ("value", 1, 7, 1)), (5, ("exchange", 0, COUNTING)))
FLOW = flowed(flow_of(CHAIN, TABLES, COMING), DEEDS, 7)
# Two rows of LOOK, one, one and its answer; then two rows of COUNT, which came in the place of LOOK.
LEGS = (
    ("block", 2, (), made(form_of(LOOK, 0, 2), 4), 2), ("step",), ("block", 12, (), made(form_of(LOOK, 3, 12), 9), 1), ("step",),
    ("block", 12, better(FORM, (2,), (0,))[1], made(better(FORM, (2,), (0,))[0], 12), 2),
)
JOINED = joined(LOOK, COUNT)

# Kinds of claims, with their papers.
RIGHT = {
    "run": (("run", LOOK, START, 4, run_on(LOOK, START, 4)), ()),
    "not run": (("not run", LOOK, START, 4, run_on(LOOK, START, 3)), ()),
    "meant": (("meant", SOURCE, (5, 6), TABLES, 9, meant(SOURCE, (5, 6), TABLES, 9)), ()),
    "compiled": (("compiled", SOURCE, WIDE, COMPILED), ()),
    "let by": (("let by", LOOK, LOOK_GRANT, 5), LOOK_TABLE),
    "faulty": (("faulty", LOOK, WIDE), begun((), TABLES, 0, 1)),
    "flawed": (("flawed", (("set", 0, 0), ("jump", 1), ("again", 1, 1, 3)), 1, "far"), ()),
    "left open": (("left open", LOOK, WIDE, 0, "packet"), ()),
    "formed": (("formed", LOOK, 0, 12, BLOCK), ()),
    "rewritten": (("rewritten", BLOCK, BETTER, SURE), BETTER_STEPS),
    "right translation": (("right translation", BETTER, TRANSLATION), ()),
    "wrong translation": (("wrong translation", FORM, WRONG), (START, entered(START), 12)),
    "passed": (("passed", TRANSLATION, LOOK_RUN, 3) + passed(TRANSLATION, LOOK_RUN, 3), ()),
    "flowed": (("flowed", CHAIN, TABLES, COMING, DEEDS, 7, FLOW), LEGS),
    "not flowed": (("not flowed", CHAIN, TABLES, COMING, DEEDS, 7, put(FLOW, 5, 6)), LEGS),
    "joined": (("joined", LOOK, COUNT, JOINED), ()),
    "snapshot": (("snapshot", START, write_snapshot(START)), ()),
}

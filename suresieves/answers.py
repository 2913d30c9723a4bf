"""What a console answers of sieves, flows and runners, as texts."""

from suresieves.inspector import verdict

# Where nothing is kept, and nothing counted.
NOTHING = "none"
TALLY_WORDS = ("plain", "translated", "made", "entered", "linked", "thrown", "crowded")


def sieve_word(sieve, grant):
    """The word of a sieve for a grant."""
    told = verdict(sieve, grant)
    if told[0] == "flaw":
        return f"{len(sieve)} rows, flaw at {told[1]}: {told[2]}"
    if told[0] == "open":
        return f"{len(sieve)} rows, open at {told[1]}: {told[2]}"
    return f"{len(sieve)} rows, let by, at most {told[2]} steps"


def stand_text(flow):
    """The stand of a flow."""
    hand = flow[2]
    where = "still" if hand[0] == "still" else f"link {hand[1]} at {hand[2][3]}"
    return f"{flow[5]} steps, {len(flow[3])} through, {where}"


def spaced(words):
    """Each word with a blank ahead of it."""
    return "".join([f" {word}" for word in words])


def lines_text(lines):
    """Lines parted, or that there are none."""
    return "\n".join(lines) if lines else NOTHING


def verdict_text(number, told):
    """The line of a packet's verdict."""
    if told[0] == "passed":
        return f"{number}: passed{spaced(told[1])}"
    if told[0] == "dropped":
        return f"{number}: dropped by {told[1]}"
    return f"{number}: sent by {told[1]} with {told[2]}:{spaced(told[3])}"


def verdicts_text(flow):
    """The lines of all verdicts of a flow."""
    return lines_text([verdict_text(number, told) for number, told in enumerate(flow[3])])


def count_text(number, told):
    """The line of a link's counts."""
    by, dropped, sent, out, steps = told
    return f"{number}: {by} passed, {dropped} dropped, {sent} sent, {out} left out, {steps} steps"


def counts_text(flow):
    """The lines of all counts of a flow."""
    return lines_text([count_text(number, told) for number, told in enumerate(flow[4])])


def table_words(table):
    """The line of a table, without its number."""
    sort, may, content = table
    words = content
    if sort == "pairs":
        words = [f"{key}={word}" for key, word in content]
    return f"{sort} {may}:{spaced(words)}"


def tables_text(tables):
    """The lines of all tables."""
    return lines_text([f"{number}: {table_words(table)}" for number, table in enumerate(tables)])


def kept_text(blocks):
    """The lines of all kept blocks, as (SERIAL, INDEX, PLACE, MANY)."""
    lines = []
    for serial, index, place, many in blocks:
        lines.append(f"{serial}: link {index}, place {place}, {many} rows")
    return lines_text(lines)


def tally_text(numbers):
    """The line of the seven numbers of a tally."""
    return ", ".join([f"{number} {word}" for number, word in zip(numbers, TALLY_WORDS)])


def known_text(state):
    """The lines of what is known of registers in a state."""
    lines = []
    for number, value in enumerate(state[0]):
        if value[:2] != (0, 65535):
            lines.append(f"r{number} from {value[0]} to {value[1]}")
    return "\n".join(lines) if lines else "nothing known"

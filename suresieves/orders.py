"""The lines that can be said to a console: what each makes of its state, and its answer.

Each function takes a state, most of them what stands behind the line's word; it tells
a pair of the state behind it and the answer, None where the line is not understood."""

from suresieves.answers import counts_text, kept_text, known_text, sieve_word, stand_text
from suresieves.answers import NOTHING, tables_text, tally_text, verdicts_text
from suresieves.compiling import compiled
from suresieves.deeds import are_sound_settings, is_deed
from suresieves.doing import exchanged
from suresieves.errors import InvalidWriting, NotLaid, NotServed, TooMany
from suresieves.flows import flow_of, flowed, link_of, tables_of
from suresieves.inspector import told_table
from suresieves.linking import MOST_COMING, MOST_LINKS, is_arrival
from suresieves.listings import listing_in, show_sieve, sieve_of
from suresieves.names import number_in
from suresieves.packets import is_grant, is_table
from suresieves.runners import deeded, fed_runner, kept, led, shown, started, tally
from suresieves.snapshots import MOST_TABLES, pairs_of
from suresieves.sources import read_source

# Where a state has its parts.
GRANT = 0
DRAFT = 1
CHAIN = 2
TABLES = 3
COMING = 4
SETTINGS = 5
RUNNER = 6

FRESH_STATE = ((0, 256, 0, ()), None, (), (), (), (12, 8, 0, 1, 1, 3, 8, 0, 1), None)
NOT_THERE = "nothing there"


def numbers_in_words(words, most):
    """The numbers up to most that words write, None for each that writes none."""
    return tuple([number_in(word, 0, most) for word in words])


def only_number(words, most):
    """The number up to most that is all that words write, None if it is not."""
    return number_in(words[0], 0, most) if len(words) == 1 else None


def say_grant(state, words):
    kinds = [(words[at],) + numbers_in_words(words[at + 1:at + 3], 32) for at in range(3, len(words), 3)]
    grant = numbers_in_words(words[:3], 256) + (tuple(kinds),)
    return (exchanged(state, GRANT, grant), "granted") if is_grant(grant) else None


def drafted(state, sieve):
    """A sieve becomes DRAFT."""
    return exchanged(state, DRAFT, sieve), sieve_word(sieve, state[GRANT])


def say_source(state, writing):
    try:
        sieve = compiled(read_source(writing), state[GRANT])
    except InvalidWriting as wrong:
        return state, "too much" if wrong.place is None else f"not read at {wrong.place}"
    except NotServed:
        return state, "not served"
    except TooMany as over:
        return state, f"too many rows: {over.given}"
    return drafted(state, sieve)


def say_sieve(state, writing):
    try:
        sieve = sieve_of(listing_in(writing.split(" / ")))
    except InvalidWriting as wrong:
        return state, f"not read in line {wrong.line} at {wrong.place}"
    except NotLaid:
        return state, "not laid"
    return drafted(state, sieve)


def say_show(state):
    draft = state[DRAFT]
    return state, NOT_THERE if draft is None else show_sieve(draft)


def say_known(state, words):
    place, draft = only_number(words, 119), state[DRAFT]
    if place is None:
        return None
    if draft is None or place >= len(draft):
        return state, NOT_THERE
    table = told_table(draft, state[GRANT])
    if table is None:
        return state, NOT_THERE
    return state, "never come to" if table[place] is None else known_text(table[place])


def say_link(state):
    draft, chain = state[DRAFT], state[CHAIN]
    if draft is None:
        return state, NOT_THERE
    if state[RUNNER] is not None:
        return state, "begun"
    if len(chain) == MOST_LINKS:
        return state, "full"
    link = link_of(draft, state[GRANT])
    if link is None:
        return state, sieve_word(draft, state[GRANT])
    return exchanged(state, CHAIN, chain + (link,)), f"link {len(chain)}"


def table_in_words(words):
    """The table that words tell, None if they tell none."""
    numbers = numbers_in_words(words[2:], 65535)
    table = tuple(words[:1]) + numbers_in_words(words[1:2], 1)
    table += (pairs_of(numbers) if words[:1] == ["pairs"] else numbers,)
    return table if is_table(table) else None


def say_table(state, words):
    table, tables = table_in_words(words), state[TABLES]
    if table is None:
        return None
    if state[RUNNER] is not None:
        return state, "begun"
    if len(tables) == MOST_TABLES:
        return state, "full"
    return exchanged(state, TABLES, tables + (table,)), f"table {len(tables)}"


def say_packet(state, words):
    arrival = numbers_in_words(words[:1], 65535) + (numbers_in_words(words[1:], 255),)
    runner = state[RUNNER]
    if not is_arrival(arrival):
        return None
    waiting = state[COMING] if runner is None else shown(runner)[1]
    if len(waiting) == MOST_COMING:
        return state, "full"
    if runner is None:
        return exchanged(state, COMING, waiting + (arrival,)), f"{len(waiting) + 1} wait"
    runner = fed_runner(runner, (arrival,))
    return exchanged(state, RUNNER, runner), f"{len(shown(runner)[1])} wait"


def say_settings(state, words):
    settings, runner = numbers_in_words(words, 40), state[RUNNER]
    if not are_sound_settings(settings):
        return None
    state = exchanged(state, SETTINGS, settings)
    if runner is not None:
        state = exchanged(state, RUNNER, deeded(runner, ("settings", settings)))
    return state, "set"


def runner_begun(state):
    """The runner of a state, which starts if there is none."""
    if state[RUNNER] is not None:
        return state[RUNNER]
    return started(flow_of(state[CHAIN], state[TABLES], state[COMING]), state[SETTINGS])


def say_go(state, words):
    steps = only_number(words, 20000)
    if steps is None:
        return None
    if not state[CHAIN]:
        return state, "no chain"
    runner = led(runner_begun(state), (), steps)
    return exchanged(state, RUNNER, runner), stand_text(shown(runner))


def say_both(state, words):
    told = say_go(state, words)
    if told is None or not state[CHAIN]:
        return told
    behind, stand = told
    plain = flowed(shown(runner_begun(state)), (), only_number(words, 20000))
    word = "the same" if plain == shown(behind[RUNNER]) else "unlike"
    return behind, f"{word}, {stand}"


def say_deed(state, head, words):
    """A deed, done now."""
    deed, runner = (head,) + numbers_in_words(words, 65535), state[RUNNER]
    if not is_deed(deed):
        return None
    if runner is None:
        return state, "not begun"
    return exchanged(state, RUNNER, deeded(runner, deed)), "done"


def say_verdicts(state):
    runner = state[RUNNER]
    return state, NOTHING if runner is None else verdicts_text(shown(runner))


def say_counts(state):
    runner = state[RUNNER]
    return state, NOTHING if runner is None else counts_text(shown(runner))


def say_tables(state):
    runner = state[RUNNER]
    return state, tables_text(state[TABLES] if runner is None else tables_of(shown(runner)))


def say_kept(state):
    runner = state[RUNNER]
    return state, NOTHING if runner is None else kept_text(kept(runner))


def say_tally(state):
    runner = state[RUNNER]
    return state, tally_text((0,) * 7 if runner is None else tally(runner))


def say_new(state):
    return FRESH_STATE, "new"


# Lines of a word and a writing behind the first blank; of deeds; of a word alone; of words.
WRITTEN = {
    "source": say_source,
    "sieve": say_sieve,
}
DEED_WORDS = ("cell", "value", "add", "off", "clear", "cut")
ALONE = {
    "show": say_show,
    "link": say_link,
    "verdicts": say_verdicts,
    "counts": say_counts,
    "tables": say_tables,
    "kept": say_kept,
    "tally": say_tally,
    "new": say_new,
}
WORDED = {
    "grant": say_grant,
    "known": say_known,
    "table": say_table,
    "packet": say_packet,
    "settings": say_settings,
    "go": say_go,
    "both": say_both,
}


def order_done(state, head, writing):
    """What a line of a word and what stands behind its first blank makes of a state, back apart.

    The writing is None if there is no blank; what is told is None where it is not understood."""
    words = [] if writing is None else [word for word in writing.split(" ") if word]
    if head in DEED_WORDS:
        return say_deed(state, head, words)
    if head in WRITTEN and writing is not None:
        say = WRITTEN[head]
        return say(state, writing)
    if head in ALONE and not words:
        say = ALONE[head]
        return say(state)
    if head in WORDED:
        say = WORDED[head]
        return say(state, words)
    return None

"""Halls: a store, edges, a log, snapshots and pins that serve sessions (points 6.1 to 6.19 and 6.23 to 6.27)."""

from lethe.edges import Edges
from lethe.erase import erase
from lethe.errors import Full, Missing, Twice
from lethe.hall_lines import is_done, read_hall_line
from lethe.lasting import lasting_files
from lethe.lines import is_change_line, read_line, spoken_of
from lethe.log import Log
from lethe.packing import pack
from lethe.pins import Pins
from lethe.sessions import MAX_SESSIONS, Transaction
from lethe.snaps import Snaps
from lethe.store import Store
from lethe.ways import best_way
from lethe.words import is_name

ALL_KINDS = (0, 1, 2, 3)

# The commands, each with the answer that tells that the line made a lasting change, which is its only effect.
LASTING = (
    ("snap", "ok"),
    ("unsnap", "ok"),
    ("pin", "ok"),
    ("unpin", "ok"),
    ("link", "new"),
    ("unlink", "ok"),
    ("erase", "erased"),
)


class Hall:
    """The parts that sessions share, and the transactions of sessions."""

    def __init__(self, seed):
        self.seed = seed
        self.store = Store(seed)
        self.edges = Edges()
        self.log = Log()
        self.snaps = Snaps(seed)
        self.pins = Pins()
        self.transactions = {}

    def run(self, session, line):
        """Run a line for a session; return the answer and the effects."""
        parsed = read_hall_line(line)
        if parsed is None or not is_name(session):
            return "bad", []
        if parsed[0] == "do":
            return do_line(self, session, parsed[1])
        if parsed[0] == "commit":
            return commit(self, session)
        action = ANSWERS[parsed[0]]
        answered = action(self, session, parsed)
        return answered, [line] if (parsed[0], answered) in LASTING else []

    def image(self):
        """Return a text that shows everything that the hall knows."""
        files = lasting_files(self)
        parts = []
        for name in sorted(files):
            parts.extend([name, files[name]])
        for session in sorted(self.transactions):
            parts.append(session)
            parts.extend(self.transactions[session].images())
        return pack(parts)


def do_line(hall, session, line):
    """Run a store line in the transaction of the session, or in the hall's store if there is none."""
    if session in hall.transactions:
        return hall.transactions[session].run(line), []
    return run_in_store(hall, line)


def run_in_store(hall, line):
    """Run a store line in the hall's store; return the answer and the effects."""
    if is_change_line(line) and hall.log.room() == 0:
        return "full", []
    answered = hall.store.run(line)
    if not is_done(line, answered):
        return answered, []
    hall.log.note(line)
    if answered == "gone":
        hall.edges.drop(spoken_of(read_line(line))[0])
    return answered, [f"do {line}"]


def commit(hall, session):
    """Run the noted lines of the session's transaction in the hall's store; return the answer and the effects."""
    if session not in hall.transactions:
        return "none", []
    transaction = hall.transactions[session]
    if transaction.conflicts(hall.store):
        del hall.transactions[session]
        return "conflict", []
    lines = [line for line, _ in transaction.noted()]
    if len(lines) > hall.log.room():
        return "full", []
    effects = []
    for line in lines:
        effects.extend(run_in_store(hall, line)[1])
    del hall.transactions[session]
    return f"done {len(lines)}", effects


def begin_answer(hall, session, parsed):
    """Answer `begin`."""
    if session in hall.transactions:
        return "twice"
    if len(hall.transactions) >= MAX_SESSIONS:
        return "full"
    hall.transactions[session] = Transaction(hall.seed, hall.store.map_image())
    return "ok"


def abort_answer(hall, session, parsed):
    """Answer `abort`."""
    if session not in hall.transactions:
        return "none"
    del hall.transactions[session]
    return "ok"


def leave_answer(hall, session, parsed):
    """Answer `leave`."""
    hall.transactions.pop(session, None)
    return "ok"


def snap_answer(hall, session, parsed):
    """Answer `snap N`."""
    try:
        hall.snaps.take(parsed[1], hall.store.map_image())
    except Twice:
        return "twice"
    except Full:
        return "full"
    return "ok"


def unsnap_answer(hall, session, parsed):
    """Answer `unsnap N`."""
    try:
        hall.snaps.remove_one(parsed[1])
    except Missing:
        return "none"
    return "ok"


def at_answer(hall, session, parsed):
    """Answer `at N STORELINE`."""
    if is_change_line(parsed[2]):
        return "bad"
    try:
        return hall.snaps.answer(parsed[1], parsed[2])
    except Missing:
        return "none"


def pin_answer(hall, session, parsed):
    """Answer `pin N STORELINE`."""
    if is_change_line(parsed[2]):
        return "bad"
    try:
        hall.pins.keep(parsed[1], parsed[2])
    except Twice:
        return "twice"
    except Full:
        return "full"
    return "ok"


def unpin_answer(hall, session, parsed):
    """Answer `unpin N`."""
    try:
        hall.pins.remove_one(parsed[1])
    except Missing:
        return "none"
    return "ok"


def pinned_answer(hall, session, parsed):
    """Answer `pinned N`."""
    try:
        return hall.store.run(hall.pins.line_of(parsed[1]))
    except Missing:
        return "none"


def link_answer(hall, session, parsed):
    """Answer `link A L B`."""
    _, source, kind, target = parsed
    if not hall.store.has(source) or not hall.store.has(target):
        return "none"
    try:
        hall.edges.link(source, kind, target)
    except Twice:
        return "twice"
    except Full:
        return "full"
    return "new"


def unlink_answer(hall, session, parsed):
    """Answer `unlink A L B`."""
    try:
        hall.edges.unlink(parsed[1], parsed[2], parsed[3])
    except Missing:
        return "none"
    return "ok"


def out_answer(hall, session, parsed):
    """Answer `out A`."""
    rows = [f"{kind}:{target}" for kind, target in hall.edges.out_of(parsed[1])]
    return " ".join(rows) if rows else "-"


def way_answer(hall, session, parsed):
    """Answer `way A B`."""
    # Without this a key that is nowhere would have a way to itself.
    if not hall.store.has(parsed[1]):
        return "none"
    try:
        return " ".join(best_way(hall.edges, ALL_KINDS, parsed[1], parsed[2]))
    except Missing:
        return "none"


def log_answer(hall, session, parsed):
    """Answer `log`."""
    lines = hall.log.lines()
    return "; ".join(lines) if lines else "-"


def stats_answer(hall, session, parsed):
    """Answer `stats`."""
    return hall.log.stats()


def erase_answer(hall, session, parsed):
    """Answer `erase K`."""
    return erase(hall, parsed[1])


# All commands but do and commit, whose effects are not the line itself.
ANSWERS = {
    "begin": begin_answer,
    "abort": abort_answer,
    "leave": leave_answer,
    "snap": snap_answer,
    "unsnap": unsnap_answer,
    "at": at_answer,
    "pin": pin_answer,
    "unpin": unpin_answer,
    "pinned": pinned_answer,
    "link": link_answer,
    "unlink": unlink_answer,
    "out": out_answer,
    "way": way_answer,
    "log": log_answer,
    "stats": stats_answer,
    "erase": erase_answer,
}

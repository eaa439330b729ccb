"""Houses: a hall whose lasting files are on a disk, with duties of other places (points 7.1 to 7.7)."""

from lethe.drives import Drive
from lethe.duties import Duties, load_duties
from lethe.erase import erase
from lethe.errors import NotAllowed
from lethe.hall import Hall
from lethe.hall_lines import HOUSE_FORMS, command_of, read_form
from lethe.lasting import lasting_files
from lethe.pieces import HOME_CELLS
from lethe.revive import hall_of
from lethe.words import is_name

MAX_PENDING = 6
MAX_PLACES = 6

DUTY_FILE = "duty"


class House:
    """A hall and duties in memory, and a disk that has their files."""

    def __init__(self, seed, places):
        check_places(places)
        self._seed = seed
        self._places = sorted(places)
        self._hall = Hall(seed)
        self._duties = Duties()
        self._drive = Drive(seed, HOME_CELLS)
        self._drive.replace_files(lasting_files(self._hall))
        # The effects of the line whose commit was lost, until a mount tells whether it was made.
        self._lost_effects = []

    def run(self, session, line, number):
        """Run a line for a session; return the answer and the effects."""
        self._drive.check_up()
        answered, effects = self._answer(session, line, number)
        if self._save(effects):
            return answered, effects
        return "lost", []

    def supply(self, writes, torn):
        """Set the power of the disk."""
        self._drive.medium().supply(writes, torn)

    def restart(self, number):
        """Mount the disk and begin with its files; return the answer and the effects of a line that was made."""
        answered = self._drive.restart()
        if answered == "down":
            return answered, []
        duty = self._drive.files().get(DUTY_FILE, "")
        self._hall = hall_of(self._seed, self.lasting())
        self._duties = load_duties(duty, number) if duty else Duties()
        effects = self._lost_effects if answered == "made" else []
        self._lost_effects = []
        return answered, effects

    def is_up(self):
        """Tell whether the house is up."""
        return self._drive.is_up()

    def lasting(self):
        """Return the files on the disk without that of the duties."""
        files = self._drive.files()
        return {name: files[name] for name in files if name != DUTY_FILE}

    def duties(self):
        """Return the duties as tuples of key and place, ascending."""
        self._drive.check_up()
        return self._duties.pairs()

    def confirmed(self, place, moment):
        """Remove the duties of a place that were noted before the moment."""
        self._drive.check_up()
        return self._save_removed(self._duties.remove_noted(place, moment))

    def remove_duties(self, place, keys):
        """Remove the duties of a place for these keys."""
        self._drive.check_up()
        return self._save_removed(self._duties.remove_keys(place, keys))

    def blocks(self):
        """Return all blocks of the disk."""
        return self._drive.medium().blocks()

    def _answer(self, session, line, number):
        """Let the memory run a line; return the answer and the effects."""
        command = command_of(line)
        if command not in HOUSE_FORMS:
            return self._hall.run(session, line)
        parsed = read_form(HOUSE_FORMS[command], line)
        if parsed is None or not is_name(session):
            return "bad", []
        if command == "status":
            return self._status(parsed[1]), []
        answered = self._forget(parsed[1], number)
        return answered, [line] if answered in ("forgotten", "pending") else []

    def _status(self, key):
        """Answer `status K`."""
        places = self._duties.places_of(key)
        return " ".join(["pending"] + places) if places else "clear"

    def _forget(self, key, number):
        """Answer `forget K`."""
        others = sorted({other for other, _ in self._duties.pairs() if other != key})
        if self._places and len(others) >= MAX_PENDING:
            return "full"
        if erase(self._hall, key) == "held":
            return "held"
        for place in self._places:
            self._duties.note(key, place, number)
        return "pending" if self._places else "forgotten"

    def _save(self, effects):
        """Let the disk have the files of the memory; tell whether the power lasted."""
        files = lasting_files(self._hall)
        if self._duties.pairs():
            files[DUTY_FILE] = self._duties.image()
        if self._drive.replace_files(files):
            return True
        self._lost_effects = list(effects)
        return False

    def _save_removed(self, there_were_any):
        """Answer the removal of duties."""
        if not there_were_any:
            return "none"
        return "ok" if self._save([]) else "lost"


def check_places(places):
    """Raise an error if a house cannot have these places."""
    if len(places) > MAX_PLACES or len(set(places)) != len(places):
        raise NotAllowed("a house has at most 6 places, each once")
    if not all([is_name(place) for place in places]):
        raise NotAllowed("a place is no name")

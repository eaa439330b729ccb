"""The disk of a place, which is up or down (points 7.2 to 7.4, 8.5, 8.6, 9.4 and 9.5)."""

from lethe.disk import Disk, changes_between
from lethe.errors import Down
from lethe.repair import mount


class Drive:
    """A disk that goes down when the power fails in a commit, until it is mounted again."""

    def __init__(self, seed, cells):
        self._seed = seed
        self._cells = cells
        self._disk = Disk(seed, cells)
        self._up = True
        # What the commit that was lost would have left; None if a mount succeeded since then.
        self._lost_files = None

    def is_up(self):
        """Tell whether the disk is up."""
        return self._up

    def check_up(self):
        """Raise an error if the disk is down."""
        if not self._up:
            raise Down("the place is down")

    def medium(self):
        """Return the medium, also of a disk that is down."""
        return self._disk.medium()

    def files(self):
        """Return the data of all files by their names."""
        self.check_up()
        return self._disk.files()

    def replace_files(self, files):
        """Let the disk have these files alone, by one commit; tell whether the power lasted."""
        changes = changes_between(self.files(), files)
        if not changes:
            return True
        try:
            self._disk.commit(changes)
        except Down:
            self._up = False
            self._lost_files = dict(files)
            return False
        return True

    def shut(self):
        """Go down, as nothing can be mounted."""
        self._up = False

    def restart(self):
        """Mount the disk; tell whether a commit was lost, and whether it was made."""
        self._up = False
        try:
            self._disk = mount(self._seed, self._cells, self.medium())
        except Down:
            return "down"
        self._up = True
        lost = self._lost_files
        self._lost_files = None
        if lost is None:
            return "clean"
        return "made" if self.files() == lost else "not made"

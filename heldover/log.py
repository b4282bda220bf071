"""The log of a machine: a disk, and a keeper that writes on it."""

from heldover.errors import InvalidCount
from heldover.frames import check_maps
from heldover.machine import Machine
from heldover.records import good_prefix, good_records, line_text
from heldover.recovery import handed_out, recover, short_text
from heldover.replaying import is_right_now, last_right
from heldover.stories import is_moment


class Disk:
    """One file, the beginning of which is permanent."""

    def __init__(self, text=""):
        self._text = text
        self._flushed = len(text)

    def write(self, text):
        """Adds to the end of the file."""
        self._text += text

    def flush(self):
        """Makes permanent what is written."""
        self._flushed = len(self._text)

    def replace(self, text):
        """Puts another file, which is permanent, in the place of this one."""
        self._text = text
        self._flushed = len(text)

    def text(self):
        """The file."""
        return self._text

    @property
    def flushed(self):
        """How many characters are permanent."""
        return self._flushed

    def crash(self, kept=0):
        """The disk behind a crash that leaves so many characters of those that are not permanent."""
        if not is_moment(kept) or kept > len(self._text) - self._flushed:
            raise InvalidCount(kept)
        return Disk(self._text[:self._flushed + kept])

    def __eq__(self, other):
        return isinstance(other, Disk) and self._text == other._text and self._flushed == other._flushed

    def __len__(self):
        return len(self._text)


class Keeper:
    """A machine, and a disk on which the records of all that it does are written."""

    def __init__(self, version):
        self._machine = Machine(version)
        self._disk = Disk()

    @classmethod
    def recovered(cls, versions, disk):
        """A keeper with the machine that recovery makes, and the good prefix as its permanent file."""
        machine = recover(versions, disk.text())
        keeper = cls(versions[0])
        keeper.begin_with(machine, disk.text())
        return keeper

    def begin_with(self, machine, text):
        """Takes over a machine, and the good prefix of its file."""
        self._machine = machine
        self._disk = Disk(good_prefix(text))

    def machine(self):
        """A copy of the machine."""
        return self._machine.clone()

    def disk(self):
        """A copy of the disk."""
        found = Disk(self._disk.text()[:self._disk.flushed])
        found.write(self._disk.text()[self._disk.flushed:])
        return found

    def _lines(self, records):
        """The next lines, with these records."""
        first = self._disk.text().count("\n") + 1
        return "".join([line_text(number, record) for number, record in enumerate(records, start=first)])

    def perform(self, operation, version=None):
        """Does and returns what the machine does and returns, and writes its records."""
        machine = self._machine.clone()
        count = len(machine.records())
        found = machine.perform(operation, version)
        # The lines are made first, because an operation that raises must change nothing.
        lines = self._lines(machine.records()[count:])
        self._machine = machine
        self._disk.write(lines)
        return found

    def flush(self):
        """Makes permanent what is written."""
        self._disk.flush()

    def handed_out(self):
        """What is handed out: the sorted lists of open asks and of ends."""
        return handed_out(self._machine, self._machine.versions(), self._disk.text()[:self._disk.flushed])

    def checkpoint(self, name, key, frame):
        """Writes a checkpoint of a living task."""
        self._machine.run(name)
        self._disk.write(self._lines([("frame", name, key, frame)]))

    def shorten(self, *, key=None, codes=None, maps=None):
        """Replaces the file by the short file, with the checkpoints with this key that are right."""
        kept = []
        if codes is not None and maps is not None:
            check_maps(codes, maps)
            kept = self._kept(key, codes, maps)
        self._disk.replace(short_text(self._machine, kept))

    def _kept(self, key, codes, maps):
        """The checkpoints that are kept in a short file."""
        found = last_right(self._machine.versions(), good_records(self._disk.text()), key, codes, maps)
        names = [name for name in self._machine.names() if name in found]
        return [
            ("frame", name, key, found[name]) for name in names
            if is_right_now(codes, maps, self._machine.run(name), found[name])
        ]

    def crash(self, kept=0):
        """The new keeper behind a crash that leaves so many characters of those that are not permanent."""
        return Keeper.recovered(self._machine.versions(), self._disk.crash(kept))

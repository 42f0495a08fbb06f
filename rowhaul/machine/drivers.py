"""Drivers: what reads rows out of the store, turn by turn, for all parts of a pass."""

from rowhaul.errors import Over
from rowhaul.machine.drives import BesideDrive, BlockDrive, FilesDrive, MeetDrive, MergeDrive
from rowhaul.plans.schemes import Scheme


def _drive_of(scheme, quarter, driver, store, held, phase, reads):
    """The drive of a driver's kind."""
    if driver[0] == "file":
        return FilesDrive((driver[1], "file"), (driver[1],), store, held, reads)
    word = driver[1]
    if word == "both":
        return FilesDrive(driver, scheme.read_by(driver), store, held, reads)
    if word == "beside":
        return BesideDrive(driver, scheme.read_by(driver), store, held, reads)
    if word == "merge":
        return MergeDrive(scheme, quarter, driver, store, held, reads)
    if word == "meet":
        return MeetDrive(scheme, quarter, driver, store, held, reads)
    return BlockDrive(scheme, quarter, driver, store, held, phase, reads)


class Driver:
    """A drive alone, in a store and a room that are handed in; merges ahead are done by others."""

    def __init__(self, program, room, ways, driver, store, held, *, phase=None, reads=()):
        scheme = Scheme(program, ways)
        self._is_ended = phase == ("end",)
        self._drive = _drive_of(scheme, room // 4, driver, store, held, phase, reads)

    def turn(self, take):
        """Do a turn; take is called with what is handed on, if something is."""
        if self.is_over():
            raise Over("no further turn")
        self._drive.turn(take)

    def is_over(self):
        """Is there no further turn?"""
        return self._is_ended or self._drive.is_over()

    def phase(self):
        """The phase of the next turn, `("end",)` behind all."""
        return ("end",) if self.is_over() else self._drive.phase()

    def reads(self):
        """How many records are read of each file: rising (side, name, many)."""
        return self._drive.reads()

    def fault(self):
        """The fault by which there is no turn at all, or ()."""
        return self._drive.fault()

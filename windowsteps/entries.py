"""Entries of the log of a board."""


class Entry:
    """The two entries of a command, one when it begins and one when it ends."""

    def __init__(self, log, command):
        self._log = log
        self._command = command

    def __enter__(self):
        self._log.append(self._command)
        return self

    def __exit__(self, kind, value, trace):
        if kind is None:
            self._log.append("done")
        else:
            self._log.append("failed")

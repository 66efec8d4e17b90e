"""A journal: a text that only grows, record by record, until the power fails."""

from unbent.errors import InvalidRecord


def _is_record(text):
    return all(" " <= character <= "~" for character in text)


class Journal:
    """Records, and behind them at most a part of one that was cut off."""

    def __init__(self, text=""):
        parts = text.split("\n")
        if not all(_is_record(part) for part in parts):
            raise InvalidRecord()
        self._kept = parts[:-1]
        self._rest = ""
        self._power = True
        self._fuse = None

    @property
    def is_on(self):
        """True if the power is on."""
        return self._power

    def add(self, record):
        """Write the record and a newline; return False if the power is off before that is done."""
        if not _is_record(record):
            raise InvalidRecord()
        if not self._power:
            return False
        size = len(record) + 1
        if self._fuse is not None and self._fuse < size:
            self._rest = record[:self._fuse]
            self._power = False
            return False
        self._kept.append(record)
        if self._fuse is not None:
            self._fuse -= size
            self._power = self._fuse > 0
        return True

    def fail(self, count):
        """Let the power fail behind so many further characters."""
        if self._power:
            self._fuse = count
            self._power = count > 0

    def open_again(self):
        """Turn the power on, without a fuse, and remove a record that was cut off."""
        self._rest = ""
        self._power = True
        self._fuse = None

    def text(self):
        """Return the whole text."""
        return "".join([record + "\n" for record in self._kept]) + self._rest

    def records(self):
        """Return the list of the records."""
        return list(self._kept)

"""Gazettes: records under a safe charter to which entries are appended batch by batch."""

from gazette.certificates import certified, impact, verify_certificate
from gazette.charters import check_charter
from gazette.circles import determined
from gazette.cycles import check_safe
from gazette.entries import objections
from gazette.errors import NothingToUndo, RecordFull
from gazette.pruning import prune
from gazette.records import check_record
from gazette.sittings import sitting_day
from gazette.validity import changed, history, reported_state, was_valid

MOST_ENTRIES = 40


class Gazette:
    """A safe charter and a record, which is empty at first."""

    def __init__(self, charter):
        check_charter(charter)
        check_safe(charter)
        self._charter = charter
        self._batches = ()
        self._keep(())

    def enter(self, entries):
        """Append a batch of entries and return the numbers of those whose validity changes."""
        entered = self._entries + entries
        if len(entered) > MOST_ENTRIES:
            raise RecordFull("the record would have too many entries")
        check_record(self._charter, entered)
        before = self._validity
        self._batches = self._batches + (len(entries),)
        self._keep(entered)
        return changed(before, self._validity)

    def undo(self):
        """Take back the last batch and return the numbers of the entries left whose validity changes."""
        if not self._batches:
            raise NothingToUndo("there is no batch left")
        before = self._validity
        left = len(self._entries) - self._batches[-1]
        self._batches = self._batches[:-1]
        self._keep(self._entries[:left])
        return changed(before[:left], self._validity)

    def _keep(self, entries):
        """Take entries as the record, and work out what the properties tell."""
        self._entries = entries
        # Under a safe charter no record has a circle, so every entry is determined.
        self._validity = determined(self._charter, entries)
        self._state = reported_state(self._charter, entries, self._validity)
        self._pruned = prune(self._charter, entries, self._validity)

    @property
    def charter(self):
        """The charter."""
        return self._charter

    @property
    def record(self):
        """All entries."""
        return self._entries

    @property
    def batches(self):
        """The sizes of the batches that have not been taken back."""
        return self._batches

    @property
    def sitting(self):
        """The sitting of the last entry, or 0 if there is none."""
        return self._entries[-1][1] if len(self._entries) > 0 else 0

    @property
    def validity(self):
        """The validity of the record."""
        return self._validity

    @property
    def state(self):
        """The final state."""
        return self._state

    @property
    def pruned(self):
        """The record without the entries that are not valid."""
        return self._pruned

    def was_valid(self, length, entry):
        """Return whether an entry was valid when the record had this length."""
        return was_valid(self._charter, self._entries, length, entry)

    def history(self, entry):
        """Return the history of an entry."""
        return history(self._charter, self._entries, entry)

    def certificate(self, entry):
        """Return the certificate of an entry."""
        return certified(self._charter, self._entries, entry, self._validity)

    def verify_certificate(self, entry, certificate):
        """Return whether a certificate is accepted for an entry."""
        return verify_certificate(self._charter, self._entries, entry, certificate)

    def impact(self, number, action, entry):
        """Return the impact of a new entry of a type with an action on an entry."""
        return impact(self._charter, self._entries, number, action, entry)

    def objections(self, entry):
        """Return the objections to an entry under the validity of the record."""
        return objections(self._charter, self._entries, self._validity, entry)

    def day_of(self, entry):
        """Return the day of the sitting of an entry."""
        return sitting_day(self._charter[8], self._entries[entry][1])

    def __len__(self):
        return len(self._entries)

    def __iter__(self):
        return iter(self._entries)

    def __str__(self):
        return f"{len(self._entries)} entries"

"""Bills, conference reports and statutes."""

from gazette.amendments import resolve
from gazette.compromises import is_compromise
from gazette.edits import applies, apply_edits, sorted_edits


def adopted_edits(bill):
    """Return the edits of the amendments that a bill tells as adopted."""
    _, _, amendments, adopted = bill
    return tuple([amendments[number][0] for number in adopted if number < len(amendments)])


def resulting_text(document):
    """Return the resulting text of a bill or of a report, or None if it has none."""
    edits = adopted_edits(document) if document[0] == "bill" else document[2]
    return apply_edits(document[1], sorted_edits(edits))


def is_valid_bill(bill, flags):
    """Return whether a bill has only amendments that apply, and tells correctly which are adopted."""
    _, lines, amendments, adopted = bill
    edits = tuple([amendment[0] for amendment in amendments])
    if not all([applies(lines, edit) for edit in edits]):
        return False
    return adopted == resolve(edits, flags)[1]


def is_valid_report(report, first, second):
    """Return whether a report is a compromise between two bills on its lines, and has a text."""
    _, lines, edits = report
    if first[1] != lines or second[1] != lines:
        return False
    if not is_compromise(adopted_edits(first), adopted_edits(second), edits):
        return False
    return resulting_text(report) is not None


def is_valid_statute(book, edits, texts):
    """Return whether edits of the statute book are a valid statute that cites these texts."""
    result = apply_edits(book, edits)
    if result is None or len(result) > 30:
        return False
    inserted = tuple([line for edit in edits for line in edit[2]])
    return all([text == inserted for text in texts])

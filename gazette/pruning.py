"""Records without the entries that are not valid."""

from gazette.entries import is_good


def prune(charter, record, statuses):
    """Return the entries that are assigned valid, with their references renumbered."""
    kept = [entry for entry, status in enumerate(statuses) if status]
    numbers = {entry: number for number, entry in enumerate(kept)}
    return tuple([_renumbered(charter, record, statuses, entry, numbers) for entry in kept])


def _renumbered(charter, record, statuses, entry, numbers):
    entry_type, sitting, roll_call, basis, effect, payload = record[entry]
    items = []
    for place, item in enumerate(basis):
        is_reference = item is not None and is_good(charter, record, statuses, entry, place)
        items.append(numbers[item] if is_reference else None)
    if effect is not None:
        action, target = effect
        effect = (action, numbers[target]) if target in numbers else None
    return (entry_type, sitting, roll_call, tuple(items), effect, payload)

"""Random charters and records: valid ones, with entries of all kinds, some of them correct and some not."""

from gazette.charters import check_charter
from gazette.cycles import analyze
from support import charter_of, entry_type

KINDS = (
    "none", "seats", "parameters", "statute", "bill", "report", "budget", "payments", "appointment", "petition",
)
COMPONENTS = {
    "seats": ("seats",), "parameters": ("parameters",), "statute": ("statute",),
    "budget": ("budget", "payments"), "payments": ("budget", "payments"), "appointment": ("appointment",),
}
RULES = (
    ("premier",), ("yeas", 0, 2), ("majority", 0, "seats"), ("yeas", 0, ("parameter", 0)), ("quorum", 0, 2),
    ("any", ("premier",), ("yeas", 0, 2)), ("fraction", 0, 2, 3, "seats"),
)


def some_dependencies(numbers, many, most, low, high):
    """A few types with delays or deadlines."""
    named = numbers.sample(range(many), min(many, numbers.choice((0, 0, 1, 1, 2, most))))
    return tuple((other, numbers.randint(low, high)) for other in named)


def some_charter(numbers, many, kinds=("none",), delays=3, deadlines=2, ratified=True):
    """A valid charter with so many entry types."""
    payloads = [numbers.choice(kinds) for _ in range(many)]
    entry_types = []
    for payload in payloads:
        basis = dict(some_dependencies(numbers, many, 2, 0, delays))
        for other in range(many):
            if payload in COMPONENTS and payloads[other] in COMPONENTS[payload]:
                basis[other] = 0
        annulled, cured = [some_dependencies(numbers, many, 1, 1, deadlines) for _ in range(2)]
        entry_types.append([payload, numbers.choice(RULES), tuple(basis.items()), annulled, cured, ()])
    if ratified and many > 1 and numbers.random() < 0.5:
        other = numbers.randrange(many)
        chosen = numbers.choice([number for number in range(many) if number != other])
        entry_types[chosen][5] = ((other, numbers.randint(1, deadlines)),)
    charter = charter_of(
        *map(tuple, entry_types), seats=((0, 1, 2), (0, None)), parameters=(2, 1), statutes=("s", "t"), tree=(0, 0),
        appropriations=(4, 3, 0), petition=(2, 2, 1, 2),
    )
    check_charter(charter)
    return charter


def some_safe_charter(numbers, *args, **options):
    while True:
        charter = some_charter(numbers, *args, **options)
        if analyze(charter)[1] is None:
            return charter


def some_payload(numbers, kind):
    """A payload that may be correct."""
    lines = ("a", "b")
    edits = ((0, (), ("x",)), (1, ("b",), ()), (2, (), ("y",)), (0, ("a",), ()), (0, ("s",), ("x",)))
    if kind == "seats":
        return ("seats", tuple(
            (numbers.choice((0, 0, 1)), numbers.randint(0, 2), numbers.choice((None, 0, 1, 2)))
            for _ in range(numbers.choice((1, 1, 2)))))
    if kind == "parameters":
        return ("parameters", ((numbers.choice((0, 0, 1, 2)), numbers.randint(0, 3)),))
    if kind == "statute":
        return ("statute", (numbers.choice(edits),))
    if kind == "bill":
        chosen = numbers.sample(edits[:4], 2)
        roll_calls = ["".join(numbers.choice("YYN") for _ in range(3)) for _ in chosen]
        return ("bill", lines, tuple(zip(chosen, roll_calls)), numbers.choice(((), (0,), (1,), (0, 1), (1, 0))))
    if kind == "report":
        return ("report", lines, tuple(numbers.sample(edits[:4], numbers.choice((0, 1)))))
    if kind == "budget":
        own = [numbers.randint(0, 3) for _ in range(3)]
        return ("budget", ((own[0], sum(own) + numbers.choice((0, 0, 0, 1))), (own[1], own[1]), (own[2], own[2])))
    if kind == "payments":
        return ("payments", ((numbers.choice((1, 1, 2, 2, 0, 3)), numbers.randint(0, 3)),))
    if kind == "appointment":
        return ("appointment", numbers.choice((None, 0, 1, 2, 3)))
    return ("petition", tuple((numbers.randint(0, 2), numbers.randint(0, 1)) for _ in range(numbers.choice((2, 3)))))


def some_record(numbers, charter, many, step=1):
    """A record of a charter with so many entries."""
    record = []
    sitting = 0
    for number in range(many):
        sitting += numbers.randint(0, step)
        kind = numbers.randrange(len(charter[9]))
        payload, _, basis, _, _, _ = charter[9][kind]
        items = tuple(numbers.choice((None, None, *range(number))) for _ in basis)
        if number and numbers.random() < 0.4:
            items = tuple(best_item(numbers, record, named) for named, _ in basis)
        effect = None
        if number and numbers.random() < 0.6:
            effect = some_effect(numbers, charter, record, kind)
        roll_call = numbers.choice(("YYY", "YYY", "YYN", "NYY", "YPY", "--Y", "Y--", "N-N", "---"))
        content = None if payload == "none" or numbers.random() < 0.3 else some_payload(numbers, payload)
        record.append((kind, sitting, roll_call, items, effect, content))
    return tuple(record)


def some_effect(numbers, charter, record, kind):
    """An effect on one of the last entries, if possible one that the types permit."""
    recent = range(max(0, len(record) - 4), len(record))
    named = [
        (action, target) for target in recent for action, place in (("annul", 3), ("cure", 4), ("ratify", 5))
        if kind in dict(charter[9][record[target][0]][place])
    ]
    if named and numbers.random() < 0.8:
        return numbers.choice(named)
    return (numbers.choice(("annul", "cure", "ratify")), numbers.choice(recent))


def best_item(numbers, record, named):
    fitting = [number for number, entry in enumerate(record) if entry[0] == named]
    return numbers.choice(fitting) if fitting else None


def small_charters(numbers, tries, most=3):
    """Charters with a few entry types and small delays and deadlines, with many edges and with few."""
    for _ in range(tries):
        many = numbers.randint(1, most)
        delay, deadline = numbers.choice((1, 3, 5)), numbers.choice((1, 1, 2))
        often = numbers.choice((0.15, 0.3))

        def pairs(chance, low, high):
            return tuple((other, numbers.randint(low, high)) for other in range(many) if numbers.random() < chance)

        yield charter_of(*[
            entry_type(
                basis=pairs(0.4, 0, delay), annulled=pairs(often, 1, deadline), cured=pairs(often / 2, 1, deadline),
            ) for _ in range(many)
        ])


def ratified_charters(numbers, tries, most=3):
    """The same, with one type more, which must ratify the entries of some of the others."""
    for charter in small_charters(numbers, tries, most):
        entry_types = list(charter[9])
        for number in range(len(entry_types)):
            if numbers.random() < 0.3:
                ratified = ((len(entry_types), numbers.randint(1, 2)),)
                entry_types[number] = entry_types[number][:5] + (ratified,)
        last = some_dependencies(numbers, len(entry_types), 1, 0, 3)
        yield charter_of(*entry_types, entry_type(basis=last))

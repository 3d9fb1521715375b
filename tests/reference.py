"""What the document tells, computed by trial or word by word, to compare the program with."""

import itertools

from gazette.charters import edges
from gazette.payloads import is_correct
from gazette.rules import passes
from gazette.states import apply_payload, start_state


def worth(edge):
    return -edge[3] if edge[2] == "basis" else edge[3]


def first_walks(charter, start, most):
    """For each number of edges: the first walk for each end, slack, and directions that have occurred."""
    all_edges = edges(charter)
    found = {(start, 0, False, False): ()}
    for _ in range(most):
        longer = {}
        for (here, slack, backward, forward), walk in found.items():
            for number, edge in enumerate(all_edges):
                if edge[0] == here:
                    is_backward = edge[2] == "basis"
                    key = (edge[1], slack + worth(edge), backward or is_backward, forward or not is_backward)
                    longer[key] = min(longer.get(key, walk + (number,)), walk + (number,))
        found = longer
        yield found


def reported_cycle(charter):
    """The first one of the unsafe cycles with the fewest edges, or None: the bound of [161] is taken at its word."""
    many = len(charter[9])
    delay = max([edge[3] for edge in edges(charter) if edge[2] == "basis"], default=0)
    searches = [first_walks(charter, start, 4 * many + 3 * many * delay) for start in range(many)]
    for levels in zip(*searches):
        closed = [
            walk for start, level in enumerate(levels) for (end, slack, backward, forward), walk in level.items()
            if end == start and slack >= 0 and backward and forward
        ]
        if closed:
            return min(closed)
    return None


def unsafe_starts(charter, cap=60):
    """The types at which an unsafe cycle of any length starts; slacks beyond the cap count as the cap."""
    all_edges = edges(charter)
    starts = []
    for start in range(len(charter[9])):
        seen = {(start, 0, False, False)}
        waiting = list(seen)
        while waiting:
            here, slack, backward, forward = waiting.pop()
            for edge in all_edges:
                if edge[0] == here:
                    back = edge[2] == "basis"
                    key = (edge[1], min(cap, slack + worth(edge)), backward or back, forward or not back)
                    if key[1] >= -cap and key not in seen:
                        seen.add(key)
                        waiting.append(key)
        if any(end == start and slack >= 0 and backward and forward for end, slack, backward, forward in seen):
            starts.append(start)
    return starts


def depends_backward(charter, record, i, j):
    return j < i and any(
        record[j][0] == named and record[j][1] + delay <= record[i][1] for named, delay in charter[9][record[i][0]][2]
    )


def acts(charter, record, j, i, action):
    """Whether entry j annuls, cures or ratifies entry i."""
    place = {"annul": 3, "cure": 4, "ratify": 5}[action]
    return i < j and record[j][4] == (action, i) and any(
        record[j][0] == named and record[j][1] <= record[i][1] + within
        for named, within in charter[9][record[i][0]][place]
    )


def depends(charter, record, i, j):
    forward = any(acts(charter, record, j, i, action) for action in ("annul", "cure", "ratify"))
    return forward or depends_backward(charter, record, i, j)


def graph(charter, record):
    numbers = range(len(record))
    return [[j for j in numbers if depends(charter, record, i, j)] for i in numbers]


def valid(charter, record, statuses, i):
    """Whether an entry is valid under statuses [187]."""
    kind, _, roll_call, basis, _, payload = record[i]
    _, rule, named, _, _, ratified = charter[9][kind]
    state = start_state(charter)
    for j in range(i):
        if statuses[j] and depends_backward(charter, record, i, j):
            state = apply_payload(state, record[j][5])
    good = [
        item is None or (
            statuses[item] and record[item][0] == named[place][0] and depends_backward(charter, record, i, item))
        for place, item in enumerate(basis)
    ]
    cited = tuple(record[item][5] for place, item in enumerate(basis) if good[place] and item is not None)
    procedural = all(good) and passes(rule, state[0], roll_call, parameters=state[1], premier=state[5])
    acting = {
        action: [j for j in range(len(record)) if statuses[j] and acts(charter, record, j, i, action)]
        for action in ("annul", "cure", "ratify")
    }
    if not is_correct(charter, state, kind, payload, cited) or acting["annul"]:
        return False
    return (procedural or bool(acting["cure"])) and (not ratified or bool(acting["ratify"]))


def all_consistent(charter, record):
    """All consistent statuses, by trying all."""
    found = []
    for statuses in itertools.product((True, False), repeat=len(record)):
        if all(valid(charter, record, statuses, i) == statuses[i] for i in range(len(record))):
            found.append(statuses)
    return tuple(found)


def all_circles(needs):
    """All circles that begin with their lowest number, by trying all paths."""
    def along(path):
        for other in needs[path[-1]]:
            if other == path[0]:
                yield path
            elif other > path[0] and other not in path:
                yield from along(path + (other,))
    for start in range(len(needs)):
        yield from along((start,))


def first_circle(needs):
    return min(all_circles(needs), key=lambda circle: (len(circle), circle), default=None)


def reached(needs, start):
    found = {start}
    while True:
        more = found | {other for entry in found for other in needs[entry]}
        if more == found:
            return found
        found = more


def made_along(charter, walk, sittings, ranks, is_closed):
    """The entries along the edges of a cycle [220] or of a reversal walk [243], with their ratifications."""
    members, types = charter[0], charter[9]
    walked = [edges(charter)[number] for number in walk]
    many = len(walked)
    listing = []
    for i in sorted(range(many), key=lambda i: (sittings[i], ranks[i], i)):
        listing.append(("entry", i))
        if types[walked[i][0]][5] and walked[i][2] != "ratify":
            listing.append(("ratification", i))
    place = {item: number for number, item in enumerate(listing)}
    record = []
    for what, i in listing:
        source, target, kind, _ = walked[i]
        if what == "ratification":
            other = types[source][5][0][0]
            basis = (None,) * len(types[other][2])
            record.append((other, sittings[i], "Y" * members, basis, ("ratify", place["entry", i]), None))
            continue
        basis = [None for _ in types[source][2]]
        for at, (named, _) in enumerate(types[source][2]):
            if kind == "basis" and named == target:
                basis[at] = place["entry", (i + 1) % many]
        before = i - 1 if i > 0 else many - 1
        has_effect = walked[before][2] != "basis" and (is_closed or i > 0)
        effect = (walked[before][2], place["entry", before]) if has_effect else None
        record.append((source, sittings[i], ("-" if kind == "cure" else "Y") * members, tuple(basis), effect, None))
    return tuple(record), place


def counterexample(charter, cycle):
    """The record of [220]."""
    walked = [edges(charter)[number] for number in cycle]
    backward = [edge[3] for edge in walked if edge[2] == "basis"]
    to_make_up, sitting, sittings = sum(backward), 0, []
    for edge in walked:
        sittings.append(sitting)
        step = min(edge[3], to_make_up)
        if edge[2] == "basis":
            sitting -= edge[3]
        else:
            sitting += step
            to_make_up -= step
    many_backward, many_forward = len(backward), len(walked) - len(backward)
    ranks = [
        many_backward * len([edge for edge in walked[:i] if edge[2] != "basis"])
        - many_forward * len([edge for edge in walked[:i] if edge[2] == "basis"]) for i in range(len(walked))
    ]
    return made_along(charter, cycle, [sitting - min(sittings) for sitting in sittings], ranks, True)[0]


def reversal(charter, walk):
    """What [243] makes of a reversal walk: the record, the number of walk entry 0, and what is appended."""
    walked = [edges(charter)[number] for number in walk]
    sittings = [sum(map(worth, walked[:i])) for i in range(len(walked) + 1)]
    sittings = [sitting - min(sittings) for sitting in sittings]
    ranks = [sum(-1 if edge[2] == "basis" else 1 for edge in walked[:i]) for i in range(len(walked))]
    record, place = made_along(charter, walk, sittings, ranks, False)
    _, target, kind, _ = walked[-1]
    basis, ratified = [charter[9][target][part] for part in (2, 5)]
    roll_call, effect = "Y" * charter[0], (kind, place["entry", len(walked) - 1])
    appended = [(target, sittings[-1], roll_call, (None,) * len(basis), effect, None)]
    for other, _ in ratified[:1]:
        basis = (None,) * len(charter[9][other][2])
        appended.append((other, sittings[-1], roll_call, basis, ("ratify", len(record)), None))
    return record, place["entry", 0], tuple(appended)


def first_forward_walk(charter, start, least):
    """The first one of the walks with a forward edge, a slack of at least `least` and the fewest edges."""
    for level in first_walks(charter, start, 400):
        fitting = [walk for (_, slack, _, forward), walk in level.items() if forward and slack >= least]
        if fitting:
            return min(fitting)
    return None


def slack_bounds(charter):
    """The slack bounds, from walks with so many edges that a type is seen to be unbounded."""
    many = len(charter[9])
    most, forward = [0] * many, [None] * many
    layers = []
    for _ in range(40 * many):
        longer, longer_forward = list(most), list(forward)
        for source, target, kind, sittings in edges(charter):
            slack = -sittings if kind == "basis" else sittings
            longer[source] = max(longer[source], most[target] + slack)
            rest = forward[target] if kind == "basis" else most[target]
            if rest is not None:
                best = rest + slack
                longer_forward[source] = best if longer_forward[source] is None else max(best, longer_forward[source])
        most, forward = longer, longer_forward
        layers.append(list(zip(most, forward)))
    few, last = layers[many - 1], layers[-1]
    return tuple(
        ("unbounded", "unbounded") if last[number][0] > few[number][0] else few[number] for number in range(many)
    )

"""Books that keep their trees' shape: of what they tell anything, where two part, and what shows them alike."""

from treetellers.errors import BadPairs, BadState, NotKeeping
from treetellers.forms import ANY, MOST_STATE, check_book, is_bare, is_number

MOST_PAIRS = 40
START = (0, 0)


def accepted(book, state):
    """The least tree of which the state, at the root, tells anything; None if there is none."""
    steps = checked_steps(book)
    if not is_number(state, MOST_STATE):
        raise BadState("a state is a number from 0 to 5")
    return least_trees(told_ways(steps, "one")).get(("one", state))


def parted(one, other):
    """The least tree of which the books tell unlike things; None if there is none."""
    mine = checked_steps(one)
    theirs = checked_steps(other)
    ways = {**told_ways(mine, "one"), **told_ways(theirs, "other"), **common_ways(mine, theirs)}
    ways.update(alone_ways(mine, theirs, "one"))
    ways.update(alone_ways(theirs, mine, "other"))
    ends = ("unlike", "one alone", "other alone")
    ways["parted"] = [way for word in ends for way in ways.get((word, 0, 0), [])]
    return least_trees(ways).get("parted")


def shows(one, other, pairs):
    """Whether these pairs of states show that the books are alike for all trees."""
    mine = live_steps(checked_steps(one))
    theirs = live_steps(checked_steps(other))
    check_pairs(pairs)
    if START not in pairs:
        return False
    for pair in pairs:
        behind = pairs_behind(pair, mine, theirs)
        if behind is None or any([reached not in pairs for reached in behind]):
            return False
    return True


def closed(one, other):
    """The fewest pairs that show that the books are alike, rising; None if they aren't alike."""
    mine = live_steps(checked_steps(one))
    theirs = live_steps(checked_steps(other))
    found = {}
    waiting = [START]
    while waiting:
        pair = waiting.pop()
        if pair not in found:
            behind = pairs_behind(pair, mine, theirs)
            if behind is None:
                return None
            found[pair] = True
            waiting.extend(behind)
    return sorted(found)


def checked_steps(book):
    """For each state, label and count of kids that a rule has, the label it tells and its dos' states."""
    check_book(book)
    steps = {}
    for number, rule in enumerate(book):
        state, _, pattern, build = rule
        if not keeps_shape(rule) or (state, pattern[0], len(pattern[1])) in steps:
            raise NotKeeping(number)
        steps[state, pattern[0], len(pattern[1])] = (build[0], [do[1] for do in build[1]])
    return steps


def keeps_shape(rule):
    """Whether the rule, by itself, lays a label over what comes of the kids, in their turn."""
    _, spot, pattern, build = rule
    if spot is not None or is_bare(pattern) or build[0] == "do":
        return False
    kids, parts = pattern[1], build[1]
    in_turn = [part[0] == "do" and part[2] == (number,) for number, part in enumerate(parts)]
    return len(kids) == len(parts) and all([kid == ANY for kid in kids]) and all(in_turn)


def told_ways(steps, side):
    """The ways to trees of which the states of this side's book tell anything."""
    ways = {}
    for (state, label, _), (_, states) in steps.items():
        ways.setdefault((side, state), []).append((label, [(side, kid) for kid in states]))
    return ways


def alone_ways(mine, theirs, side):
    """The ways to trees of which a state of this side's book tells anything, and one of the other's nothing."""
    ways = {}
    for (state, label, many), (_, states) in mine.items():
        told = [(side, kid) for kid in states]
        for other in range(MOST_STATE + 1):
            rows = [told]
            if (other, label, many) in theirs:
                _, others = theirs[other, label, many]
                rows = one_changed(told, [(side + " alone", *pair) for pair in zip(states, others)])
            ways.setdefault((side + " alone", state, other), []).extend([(label, row) for row in rows])
    return ways


def common_ways(mine, theirs):
    """The ways to trees of which a state of each book tells anything, and to those of which they tell unlike trees."""
    ways = {}
    for (state, label, many), (named, states) in mine.items():
        for other in range(MOST_STATE + 1):
            if (other, label, many) in theirs:
                others_named, others = theirs[other, label, many]
                both = [("both", *pair) for pair in zip(states, others)]
                rows = [both]
                if named == others_named:
                    rows = one_changed(both, [("unlike", *pair) for pair in zip(states, others)])
                ways.setdefault(("both", state, other), []).append((label, both))
                ways.setdefault(("unlike", state, other), []).extend([(label, row) for row in rows])
    return ways


def one_changed(names, others):
    """The names with one of them changed for the other that stands there, in each way."""
    return [names[:kid] + [others[kid]] + names[kid + 1 :] for kid in range(len(names))]


def least_trees(ways):
    """For each name the least tree to which one of its ways leads, if one does; a way is a label and kids' names."""
    # A tree of many places is made of few that are used often. So that looking at one never goes down the same
    # part twice, trees that are alike are one and the same object, and are known by a number.
    met = {}
    rows = {}
    grows = True
    while grows:
        grows = False
        for name in ways:
            found = rows_over(ways[name], rows, met)
            if found and (name not in rows or min(found) < rows[name]):
                rows[name] = min(found)
                grows = True
    return {name: tree for name, (_, tree, _) in rows.items()}


def rows_over(choices, rows, met):
    """What these ways lead to by the trees that are known so far."""
    known = [(label, kids) for label, kids in choices if all([kid in rows for kid in kids])]
    return [row_over(label, [rows[kid] for kid in kids], met) for label, kids in known]


def row_over(label, kids, met):
    """How many places the tree with this label over these kids has, the tree, and its number."""
    key = (label, tuple([number for _, _, number in kids]))
    if key not in met:
        places = 1 + sum([many for many, _, _ in kids])
        met[key] = (places, (label, tuple([tree for _, tree, _ in kids])), len(met))
    return met[key]


def live_steps(steps):
    """For each state the labels and counts of kids that are live, each with the label told and the dos' states."""
    least = least_trees(told_ways(steps, "one"))
    live = [{} for _ in range(MOST_STATE + 1)]
    for (state, label, many), (named, states) in steps.items():
        if all([("one", kid) in least for kid in states]):
            live[state][label, many] = (named, states)
    return live


def pairs_behind(pair, mine, theirs):
    """The pairs of dos' states to which a pair of states leads; None if their live labels aren't told alike."""
    one, other = mine[pair[0]], theirs[pair[1]]
    if sorted(one) != sorted(other):
        return None
    if any([one[step][0] != other[step][0] for step in one]):
        return None
    return [reached for step in one for reached in zip(one[step][1], other[step][1])]


def check_pairs(pairs):
    """Refuses what is no list of pairs of states."""
    if not isinstance(pairs, list) or len(pairs) > MOST_PAIRS or not all([is_pair(pair) for pair in pairs]):
        raise BadPairs("no list of at most forty pairs of states")


def is_pair(pair):
    """Whether this is a pair of states."""
    return isinstance(pair, tuple) and len(pair) == 2 and all([is_number(state, MOST_STATE) for state in pair])

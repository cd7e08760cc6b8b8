"""A plain second telling of what the document says, to hold the program against."""

from itertools import combinations, product

from loginstacks.rules import Rule
from loginstacks.stacks import Stack

RESULTS = ("yes", "no", "skip", "gone")
WORDS = ("ok", "bad", "die", "done", "ignore", "reset")
ACTIONS = WORDS + tuple(range(1, 10))
KINDS = {
    "required": ("ok", "bad", "ignore", "bad"),
    "requisite": ("ok", "die", "ignore", "die"),
    "sufficient": ("done", "ignore", "ignore", "ignore"),
    "optional": ("ok", "ignore", "ignore", "ignore"),
}


def written(stack):
    """The stack as nested lists of rules, each rule a list of its module, its control and its number."""
    counter = [-1]

    def listed(entry):
        if isinstance(entry, Stack):
            return [listed(inner) for inner in entry.entries]
        counter[0] += 1
        return (entry.module, entry.control, counter[0])

    return listed(stack)


def walk(entries, answers, mark, by):
    """Goes through written entries with a mark and who made it bad; returns both and the numbers asked."""
    start, asked, at = (mark, by), [], 0
    while at < len(entries):
        entry = entries[at]
        at += 1
        if isinstance(entry, list):
            mark, by, inner = walk(entry, answers, mark, by)
            asked += inner
            continue
        module, control, number = entry
        asked.append(number)
        action = dict(zip(RESULTS, control))[answers[module]]
        if action == "reset":
            mark, by = start
        elif action in ("bad", "die"):
            mark, by = ("bad", by) if mark == "bad" else ("bad", number)
            if action == "die":
                break
        elif action in ("ok", "done"):
            mark = {"none": "good"}.get(mark, mark)
            if action == "done" and mark == "good":
                break
        elif action != "ignore":
            at += action
    return mark, by, asked


def told(stack, answers):
    """The outcome, the numbers asked and the one blamed."""
    mark, by, asked = walk(written(stack), answers, "none", None)
    return "in" if mark == "good" else "out", asked, by if mark == "bad" else None


def word(stack, answers):
    return told(stack, answers)[0]


def all_answers(modules):
    return [dict(zip(modules, results)) for results in product(RESULTS, repeat=len(modules))]


def with_known(modules, known):
    return [row for row in all_answers(modules) if all(row[name] == known[name] for name in known)]


def both_modules(one, other):
    return tuple(sorted({rule.module for rule in one.rules + other.rules}))


def parting(one, other):
    """All answers of both stacks' modules that do not lead to the same, in order."""
    rows = all_answers(both_modules(one, other))
    return [row for row in rows if word(one, row) != word(other, row)]


def kept(stack, numbers):
    """The stack with only the rules of these numbers, without the inner stacks that lose their last entry."""
    def left(entries):
        found = []
        for entry in entries:
            if not isinstance(entry, list):
                if entry[2] in numbers:
                    found.append(Rule(entry[0], entry[1]))
            elif entry == [] or left(entry):
                found.append(Stack(*left(entry)))
        return found

    return Stack(*left(written(stack)))


def tuples_of(items):
    """All ascending tuples of some of the items, the shortest first, then in tuple order."""
    found = [row for size in range(len(items) + 1) for row in combinations(items, size)]
    return sorted(found, key=lambda row: (len(row), row))


def random_control(rng):
    if rng.random() < 0.4:
        return rng.choice(sorted(KINDS))
    return tuple(rng.choice(WORDS + (1, 2, 3, 9)) for _ in RESULTS)


def random_entries(rng, modules, depth, budget):
    """A list of random entries; the budget is a list with the number of rules that may still be written."""
    entries = []
    for _ in range(rng.randint(0 if depth > 1 else 1, 5)):
        if depth < 3 and rng.random() < 0.3:
            entries.append(Stack(*random_entries(rng, modules, depth + 1, budget)))
        elif budget[0] > 0:
            budget[0] -= 1
            entries.append(Rule(rng.choice(modules), random_control(rng)))
    return entries


def random_stack(rng, modules, rules=8):
    return Stack(*random_entries(rng, modules, 1, [rules]))


def random_word_stack(rng, modules, rules=7):
    """A flat stack of rules with the four words alone."""
    return Stack(*[Rule(rng.choice(modules), rng.choice(sorted(KINDS))) for _ in range(rng.randint(0, rules))])

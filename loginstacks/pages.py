"""Pages: what a desk has at one time, and what it has behind each operation (point 25)."""

from loginstacks.comparing import difference_count
from loginstacks.errors import InvalidName, PromiseBroken, UnknownName
from loginstacks.rules import Rule, is_word
from loginstacks.runs import check_known, check_outcome
from loginstacks.settling import settled_word
from loginstacks.stacks import check_numbers, exchanged, with_rule


class Page:
    """A stack, the promises (known, word) and what is stored under names; a page is never changed."""

    def __init__(self, present, vows, saved):
        self.present = present
        self.vows = vows
        self.saved = saved


def first_broken(stack, vows):
    """The index of the first promise that a stack does not keep, or None."""
    for index, (known, word) in enumerate(vows):
        # Results for modules that the stack has no more do not count.
        counting = {module: known[module] for module in known if module in stack.modules}
        if settled_word(stack, counting) != word:
            return index
    return None


def with_stack(page, stack):
    """The page with another stack, and with how many answers this leads elsewhere."""
    count = difference_count(page.present, stack)
    return (with_promises_kept(Page(stack, page.vows, page.saved)), count)


def with_promises_kept(page):
    """This page; raises PromiseBroken if its stack breaks one of its promises."""
    broken = first_broken(page.present, page.vows)
    if broken is not None:
        raise PromiseBroken(broken)
    return page


def after_put(page, index, entry):
    """The page behind putting an entry in, and what this returns."""
    return with_stack(page, page.present.spliced(index, 0, (entry,)))


def after_take(page, index):
    """The page behind taking out an entry, and what this returns."""
    return with_stack(page, page.present.spliced(index, 1, ()))


def after_swap(page, index):
    """The page behind exchanging an entry with the next one, and what this returns."""
    return with_stack(page, exchanged(page.present, index))


def after_turn(page, number, control):
    """The page behind giving a rule another control, and what this returns."""
    check_numbers((number,), len(page.present.rules))
    rule = Rule(page.present.rules[number].module, control)
    return with_stack(page, with_rule(page.present, number, rule))


def after_promise(page, known, word):
    """The page behind a promise, and what this returns."""
    check_known(page.present.modules, known)
    check_outcome(word)
    vows = page.vows + ((known, word),)
    return (with_promises_kept(Page(page.present, vows, page.saved)), len(vows))


def after_store(page, name):
    """The page behind storing the stack and the promises, and what this returns."""
    if not is_word(name):
        raise InvalidName("nothing can be stored under this name")
    saved = {**page.saved, name: (page.present, page.vows)}
    return (Page(page.present, page.vows, saved), name in page.saved)


def after_go(page, name):
    """The page behind going to what was stored, and what this returns."""
    # Only words can be looked for: a name of another kind may be no key at all.
    if not is_word(name) or name not in page.saved:
        raise UnknownName("nothing is stored under this name")
    present, vows = page.saved[name]
    return (Page(present, vows, page.saved), len(present.rules))

"""What a watcher sees of a run, and learns by it (point 14)."""

from loginstacks.answers import answers_with
from loginstacks.errors import InvalidMode, UnknownView
from loginstacks.rules import RESULTS
from loginstacks.runs import check_answers, whole_run, word_of

MODES = ("outcome", "count", "rules")


def seen(stack, answers, mode):
    """The view of a run in a mode."""
    check_answers(stack.modules, answers)
    check_mode(mode)
    return view_of(whole_run(stack, answers), mode)


def views(stack, mode):
    """The list of all views in a mode, in the order of the first answers with each."""
    check_mode(mode)
    return list(rows_by_view(stack, mode))


def could_be(stack, view):
    """A dict from all modules to the tuples of the results that they tell in answers with a view of any mode."""
    rows = [answers for answers in answers_with(stack.modules, {}) if has_view(stack, answers, view)]
    if len(rows) == 0 or holds_boolean(view):
        raise UnknownView("no answers have this view")
    return {module: results_in(rows, module) for module in stack.modules}


def telling(stack, mode):
    """The ascending list of the modules that a refusal can give away in a mode."""
    check_mode(mode)
    groups = [rows for view, rows in rows_by_view(stack, mode).items() if view[0] == "out"]
    return [module for module in stack.modules if is_given_away(groups, module)]


def check_mode(mode):
    """Raises InvalidMode unless this is a mode."""
    if mode not in MODES:
        raise InvalidMode("there is no such mode")


def view_of(run, mode):
    """The view in a mode of a run that is at its end."""
    if mode == "outcome":
        return (word_of(run),)
    if mode == "count":
        return (word_of(run), len(run.numbers))
    return (word_of(run), tuple(run.numbers))


def rows_by_view(stack, mode):
    """A dict from each view in a mode to the list of the answers with it, all in order."""
    found = {}
    for answers in answers_with(stack.modules, {}):
        found.setdefault(view_of(whole_run(stack, answers), mode), []).append(answers)
    return found


def has_view(stack, answers, view):
    """Whether a run has this view in one of the modes."""
    run = whole_run(stack, answers)
    return view in [view_of(run, mode) for mode in MODES]


def holds_boolean(value):
    """Whether a value is a boolean or a tuple with one in it."""
    # A boolean is no number here, but Python finds it equal to 0 or 1, so it has to be told apart from a view's.
    if isinstance(value, tuple):
        return any([holds_boolean(part) for part in value])
    return isinstance(value, bool)


def results_in(rows, module):
    """The tuple of the results that a module tells in some answers, in order."""
    told = [answers[module] for answers in rows]
    return tuple([result for result in RESULTS if result in told])


def is_given_away(groups, module):
    """Whether all that is seen leaves open whether a module tells "yes", but what is seen with one group does not."""
    told = [[answers[module] == "yes" for answers in rows] for rows in groups]
    whole = [accepted for group in told for accepted in group]
    return is_mixed(whole) and not all([is_mixed(group) for group in told])


def is_mixed(values):
    """Whether there are both True and False among some values."""
    return True in values and False in values

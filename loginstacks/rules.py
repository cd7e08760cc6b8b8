"""Rules: a module to ask, and what each of its results does (point 2)."""

from loginstacks.checks import is_number
from loginstacks.errors import InvalidRule

LETTERS = "abcdefghijklmnopqrstuvwxyz"
LONGEST_WORD = 8
RESULTS = ("yes", "no", "skip", "gone")
ACTIONS = ("ok", "bad", "die", "done", "ignore", "reset")
LONGEST_JUMP = 9
CONTROLS = {
    "required": ("ok", "bad", "ignore", "bad"),
    "requisite": ("ok", "die", "ignore", "die"),
    "sufficient": ("done", "ignore", "ignore", "ignore"),
    "optional": ("ok", "ignore", "ignore", "ignore"),
}


class Rule:
    """A rule, which asks a module and does what its control says of the result."""

    def __init__(self, module, control):
        if not is_word(module):
            raise InvalidRule("module")
        actions = actions_of(control)
        if actions is None:
            raise InvalidRule("control")
        self._module = module
        self._control = actions

    @property
    def module(self):
        """The name of the module that is asked."""
        return self._module

    @property
    def control(self):
        """The tuple of the four actions, one for each result."""
        return self._control

    @property
    def kind(self):
        """The word for the control, or None."""
        for word in CONTROLS:
            if CONTROLS[word] == self._control:
                return word
        return None

    def __eq__(self, other):
        return isinstance(other, Rule) and self._module == other._module and self._control == other._control


def is_word(value):
    """Whether a value of any kind is a word."""
    if not isinstance(value, str) or not 1 <= len(value) <= LONGEST_WORD:
        return False
    return all([letter in LETTERS for letter in value])


def is_result(value):
    """Whether a value of any kind is a result."""
    return value in RESULTS


def is_action(value):
    """Whether a value of any kind is an action."""
    return is_number(value, 1, LONGEST_JUMP) or value in ACTIONS


def actions_of(control):
    """The four actions that a control gives or stands for, or None if it is no control."""
    if isinstance(control, str):
        return CONTROLS.get(control)
    if not isinstance(control, tuple) or len(control) != len(RESULTS):
        return None
    if not all([is_action(action) for action in control]):
        return None
    return control

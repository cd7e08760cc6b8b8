"""Texts of rows and words, and the words for a control in them (points 28 and 30)."""

from loginstacks.rules import ACTIONS, CONTROLS, RESULTS

JUMPS = ("1", "2", "3", "4", "5", "6", "7", "8", "9")


def rows_in(text):
    """The list of the rows of a text, each one the list of its words."""
    if text == "":
        return []
    return [row.split(" ") for row in text.split("\n")]


def control_text(rule):
    """The word for the control of a rule."""
    if rule.kind is not None:
        return rule.kind
    return ",".join([str(action) for action in rule.control])


def control_in(word):
    """The control that a word stands for, or None if it stands for none."""
    if word in CONTROLS:
        return CONTROLS[word]
    actions = tuple([action_in(part) for part in word.split(",")])
    # Actions that have a kind are written as this kind, and not otherwise.
    if len(actions) != len(RESULTS) or None in actions or actions in list(CONTROLS.values()):
        return None
    return actions


def action_in(part):
    """The action that a part of a word stands for, or None."""
    if part in ACTIONS:
        return part
    if part in JUMPS:
        return JUMPS.index(part) + 1
    return None

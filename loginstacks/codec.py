"""Codes of stacks: lists of small integers (point 29)."""

from loginstacks.building import BEGIN, END, built
from loginstacks.checks import is_number
from loginstacks.errors import DecodeError
from loginstacks.rules import ACTIONS, CONTROLS, LETTERS, LONGEST_JUMP, LONGEST_WORD, RESULTS, Rule
from loginstacks.stacks import MOST_ENTRIES, Stack

FIRST_ITEM = 83
INNER = 0
RULE = 1
# Behind the kinds, which are numbered from 0 on, this stands for four actions that have none.
NO_KIND = 4
FIRST_SUM = 5
SUM_FACTOR = 9
SUM_MODULUS = 251


class Decoder:
    """A list of items, as far as it was read."""

    def __init__(self, given):
        self.given = given
        self.offset = 0

    def next_item(self, least, most):
        """Reads the next item, which has to be an integer within these bounds."""
        if self.offset >= len(self.given) or not is_number(self.given[self.offset], least, most):
            raise DecodeError(self.offset)
        self.offset += 1
        return self.given[self.offset - 1]

    def next_rule(self):
        """Reads the items of a rule."""
        many = self.next_item(1, LONGEST_WORD)
        letters = [LETTERS[self.next_item(1, len(LETTERS)) - 1] for _ in range(many)]
        kind = self.next_item(0, NO_KIND)
        control = self.next_actions() if kind == NO_KIND else list(CONTROLS.values())[kind]
        return Rule("".join(letters), control)

    def next_actions(self):
        """Reads the items of four actions that have no kind."""
        codes = [self.next_item(0, code_of(LONGEST_JUMP)) for _ in RESULTS]
        actions = tuple([action_of(code) for code in codes])
        if actions in list(CONTROLS.values()):
            raise DecodeError(self.offset - 1)
        return actions

    def next_parts(self):
        """Reads the items of a whole stack, and returns the list of its parts."""
        parts = []
        # How many entries are still to be read, of each stack that has begun, the innermost one last.
        left = [self.next_item(0, MOST_ENTRIES)]
        while len(left) > 1 or left[0] > 0:
            if left[-1] == 0:
                left.pop()
                parts.append(END)
                continue
            left[-1] -= 1
            if self.next_item(INNER, RULE) == RULE:
                parts.append(self.next_rule())
            else:
                parts.append(BEGIN)
                left.append(self.next_item(0, MOST_ENTRIES))
        return parts


def code_of(action):
    """The item for an action."""
    if isinstance(action, str):
        return ACTIONS.index(action)
    return len(ACTIONS) - 1 + action


def action_of(code):
    """The action for an item."""
    if code < len(ACTIONS):
        return ACTIONS[code]
    return code - len(ACTIONS) + 1


def rule_items(rule):
    """The list of the items of a rule."""
    found = [len(rule.module)] + [LETTERS.index(letter) + 1 for letter in rule.module]
    if rule.kind is None:
        return found + [NO_KIND] + [code_of(action) for action in rule.control]
    return found + [list(CONTROLS).index(rule.kind)]


def stack_items(stack):
    """The list of the items of a stack."""
    found = [len(stack)]
    for entry in stack.entries:
        if isinstance(entry, Stack):
            found.extend([INNER] + stack_items(entry))
        else:
            found.extend([RULE] + rule_items(entry))
    return found


def checksum(numbers):
    """The checksum of some items."""
    total = FIRST_SUM
    for number in numbers:
        total = (SUM_FACTOR * total + number) % SUM_MODULUS
    return total


def encode_stack(stack):
    """The list of integers that stands for a stack."""
    found = [FIRST_ITEM] + stack_items(stack)
    return found + [checksum(found)]


def decode_stack(values):
    """The stack for which a list of integers stands."""
    decoder = Decoder(values)
    decoder.next_item(FIRST_ITEM, FIRST_ITEM)
    parts = decoder.next_parts()
    wanted = checksum(values[:decoder.offset])
    decoder.next_item(wanted, wanted)
    if decoder.offset < len(values):
        raise DecodeError(decoder.offset)
    return built(parts)

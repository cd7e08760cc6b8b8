"""Scripts, which change a stack and answers, and write where they lead (point 30)."""

from loginstacks.errors import ExecutionFailed, InvalidPlace, InvalidStack, ScriptError, TooLong
from loginstacks.rules import Rule, is_result, is_word
from loginstacks.runs import OUTCOMES, asked, outcome
from loginstacks.stacks import Stack, exchanged
from loginstacks.texts import control_in, rows_in

MOST_ROWS = 60
MOST_BLOCKS = 4
MOST_STEPS = 300
LONGEST_NUMBER = 2
DIGITS = "0123456789"
# What the words behind the first one of a row are.
SHAPES = {
    "add": ("control", "module"),
    "drop": ("number",),
    "swap": ("number",),
    "tell": ("module", "result"),
    "run": (),
    "rules": (),
    "repeat": ("number",),
    "when": ("outcome",),
    "end": (),
}
BLOCKS = ("repeat", "when")


class Machine:
    """A script while it is executed, whose blocks end at the rows that are told for them."""

    def __init__(self, rows, block_ends):
        self.script = rows
        self.block_ends = block_ends
        self.steps = 0
        self.present = Stack()
        self.results = {}
        self.output = []

    def step(self):
        """Counts a step ahead of it."""
        if self.steps == MOST_STEPS:
            raise TooLong("the script takes too many steps")
        self.steps += 1

    def execute(self, first, behind):
        """Executes the rows from the first one on, up to one that is not executed any more."""
        number = first
        while number < behind:
            self.step()
            if self.script[number][0] in BLOCKS:
                self.execute_block(number)
                number = self.block_ends[number]
            else:
                self.execute_row(number)
            number += 1

    def execute_block(self, number):
        """Executes a block as often as its row says."""
        name, word = self.script[number]
        if name == "repeat":
            for _ in range(int(word)):
                self.step()
                self.execute(number + 1, self.block_ends[number])
        elif outcome(self.present, self.answers_now()) == word:
            self.execute(number + 1, self.block_ends[number])

    def execute_row(self, number):
        """Executes a row that is none of a block."""
        words = self.script[number]
        if words[0] == "tell":
            self.results[words[1]] = words[2]
        elif words[0] == "run":
            self.output.append(outcome(self.present, self.answers_now()))
        elif words[0] == "rules":
            self.output.append(numbers_text(asked(self.present, self.answers_now())))
        else:
            self.make_change(number, words)

    def make_change(self, number, words):
        """Executes a row that changes the stack."""
        try:
            self.present = changed(self.present, words)
        except (InvalidPlace, InvalidStack):
            raise ExecutionFailed(number) from None

    def answers_now(self):
        """The answers of the modules of the stack."""
        return {module: self.results.get(module, "skip") for module in self.present.modules}


def changed(stack, words):
    """The stack behind a row that changes it."""
    if words[0] == "add":
        return stack.spliced(len(stack), 0, (Rule(words[2], control_in(words[1])),))
    if words[0] == "drop":
        return stack.spliced(int(words[1]), 1, ())
    return exchanged(stack, int(words[1]))


def numbers_text(numbers):
    """Some numbers as a text."""
    return " ".join([str(number) for number in numbers]) if len(numbers) > 0 else "-"


def is_numeral(word):
    """Whether a word is a number as it is written in scripts."""
    if not 1 <= len(word) <= LONGEST_NUMBER or not all([digit in DIGITS for digit in word]):
        return False
    return len(word) == 1 or word[0] != "0"


def fits(word, sort):
    """Whether a word is of a sort that a row has."""
    if sort == "control":
        return control_in(word) is not None
    if sort == "module":
        return is_word(word)
    if sort == "number":
        return is_numeral(word)
    if sort == "result":
        return is_result(word)
    return word in OUTCOMES


def is_row(words):
    """Whether these are the words of a row that a script can have."""
    if words[0] not in SHAPES or len(words) != 1 + len(SHAPES[words[0]]):
        return False
    return all([fits(word, sort) for word, sort in zip(words[1:], SHAPES[words[0]])])


def ends_of_blocks(rows):
    """A dict from the numbers of the rows of blocks to those of their ends; raises ScriptError."""
    found = {}
    begun = []
    for number, words in enumerate(rows):
        if number >= MOST_ROWS or not is_row(words):
            raise ScriptError(number)
        if words[0] in BLOCKS:
            if len(begun) == MOST_BLOCKS:
                raise ScriptError(number)
            begun.append(number)
        elif words[0] == "end":
            if len(begun) == 0:
                raise ScriptError(number)
            found[begun.pop()] = number
    if len(begun) > 0:
        raise ScriptError(len(rows))
    return found


def run_script(text):
    """The stack to which a script leads, and the list of the lines of its output."""
    rows = rows_in(text)
    machine = Machine(rows, ends_of_blocks(rows))
    machine.execute(0, len(rows))
    return (machine.present, machine.output)

"""Texts of stacks and of services (point 28)."""

from loginstacks.building import BEGIN, END, built, parts_of
from loginstacks.errors import InvalidText
from loginstacks.rules import Rule, is_word
from loginstacks.services import PHASES, Service, stacks_of
from loginstacks.texts import control_in, control_text, rows_in


class Reader:
    """A text, as far as its rows were read; headings are those rows between stacks that are still to follow."""

    def __init__(self, headings, sections):
        self.headings = headings
        # A list of the parts of each stack that has begun.
        self.sections = sections
        # How many inner stacks have begun and not ended yet.
        self.depth = 0

    def read_row(self, number, words):
        """Reads the words of the row with this number."""
        wanted = self.words_wanted(words[0])
        if wanted == 2 and len(words) > 1 and not is_word(words[1]):
            raise InvalidText(number, 1)
        # A row has at least one word, so that this is the wrong one if none is wanted.
        if len(words) != wanted:
            raise InvalidText(number, min(len(words), wanted))
        self.take_in(words)

    def words_wanted(self, first):
        """How many words a row has that begins with this one, 0 if no row can begin so here."""
        if self.is_heading(first):
            return 1
        if len(self.sections) == 0:
            return 0
        if first == BEGIN or (first == END and self.depth > 0):
            return 1
        return 0 if control_in(first) is None else 2

    def is_heading(self, first):
        """Whether this word is a heading, and stands where it is to follow."""
        return self.depth == 0 and self.headings[:1] == [first]

    def take_in(self, words):
        """Does what a row says that has the right words."""
        if self.is_heading(words[0]):
            self.headings = self.headings[1:]
            self.sections.append([])
        elif words[0] == BEGIN:
            self.depth += 1
            self.sections[-1].append(BEGIN)
        elif words[0] == END:
            self.depth -= 1
            self.sections[-1].append(END)
        else:
            self.sections[-1].append(Rule(words[1], control_in(words[0])))


def sections_in(text, headings, sections):
    """The lists of the parts of all stacks of a text: of those that begin with it, and of one behind each heading."""
    rows = rows_in(text)
    reader = Reader(headings, sections)
    for number, words in enumerate(rows):
        reader.read_row(number, words)
    if reader.depth > 0 or len(reader.headings) > 0:
        raise InvalidText(len(rows), 0)
    return reader.sections


def heading(phase):
    """The row of a phase."""
    return f"{phase}:"


def rows_of(stack):
    """The list of the rows of a stack."""
    return [row_of(part) for part in parts_of(stack)]


def row_of(part):
    """The row for a part of a stack."""
    if isinstance(part, Rule):
        return f"{control_text(part)} {part.module}"
    return part


def format_stack(stack):
    """The text of a stack."""
    return "\n".join(rows_of(stack))


def format_service(service):
    """The text of a service."""
    rows = []
    for phase, stack in zip(PHASES, stacks_of(service)):
        rows.extend([heading(phase)] + rows_of(stack))
    return "\n".join(rows)


def parse_stack(text):
    """The stack of a text."""
    sections = sections_in(text, [], [[]])
    return built(sections[0])


def parse_service(text):
    """The service of a text."""
    sections = sections_in(text, [heading(phase) for phase in PHASES], [])
    login, account, change, session = [built(parts) for parts in sections]
    return Service(login, account, change, session)

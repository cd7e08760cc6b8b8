"""Point 28: texts of stacks and of services."""

import random
import unittest

from loginstacks.errors import InvalidService, InvalidStack, InvalidText
from loginstacks.notation import format_service, format_stack, parse_service, parse_stack
from loginstacks.rules import Rule
from loginstacks.services import Service
from loginstacks.stacks import Stack
from tests import plain, plain_visits
from tests.support import Case, MODULES, idle, idle_stack

PIN = Rule("pin", "required")
EMPTY = "login:\naccount:\nchange:\nsession:"
KINDS = ("required", "requisite", "sufficient", "optional")


def plain_text(stack):
    """The text of a stack, told a second time."""
    rows = []
    for entry in stack.entries:
        if isinstance(entry, Stack):
            inner = plain_text(entry)
            rows += ["begin"] + ([inner] if inner else []) + ["end"]
        else:
            kinds = [kind for kind in plain.KINDS if plain.KINDS[kind] == entry.control]
            rows.append((kinds or [",".join(map(str, entry.control))])[0] + " " + entry.module)
    return "\n".join(rows)


class NotationCase(Case):
    def there_and_back(self, stack, text):
        self.same(format_stack(stack), text)
        self.assertEqual(parse_stack(text), stack)

    def no_stack(self, text, row, word):
        self.fails(InvalidText, parse_stack, text, row=row, word=word)

    def no_service(self, text, row, word):
        self.fails(InvalidText, parse_service, text, row=row, word=word)

    def wrong(self, text, row, word):
        """Checks where a text is wrong, be it that of a stack or a part of a service's."""
        self.no_stack(text, row, word)
        self.no_service("login:\n" + text + "\naccount:\nchange:\nsession:", row + 1, word)
        self.no_service("login:\nrequired pin\naccount:\nchange:\n" + text + "\nsession:", row + 4, word)
        self.no_service(EMPTY + "\nbegin\n" + text + "\nend", row + 5, word)


class ExamplesTest(NotationCase):
    def test_example(self):
        pin = Stack(PIN)
        stack = Stack(Rule("key", (1, "bad", "ignore", "ignore")), pin)
        self.same([format_stack(stack), parse_stack(format_stack(stack)) == stack,
                   format_service(Service(pin, Stack(), Stack(), Stack()))],
                  ["1,bad,ignore,ignore key\nbegin\nrequired pin\nend", True,
                   "login:\nrequired pin\naccount:\nchange:\nsession:"])

    def test_example_error(self):
        self.fails(InvalidText, parse_stack, "required pin\nend", row=1, word=0)


class StackTextTest(NotationCase):
    def test_the_empty_stack(self):
        self.there_and_back(Stack(), "")

    def test_each_kind(self):
        for kind in KINDS:
            self.there_and_back(Stack(Rule("abcdefgh", kind)), f"{kind} abcdefgh")
            self.same(format_stack(Stack(Rule("z", plain.KINDS[kind]))), f"{kind} z")

    def test_four_actions(self):
        for control in (("ok", "bad", "die", "done"), ("ignore", "reset", 1, 9), (2, 3, 4, 5), (6, 7, 8, "ok"),
                        ("ok", "ok", "ok", "ok"), ("ok", "bad", "ignore", "die"), (1, 1, 1, 1)):
            self.there_and_back(Stack(Rule("a", control)), ",".join(map(str, control)) + " a")

    def test_inner_stacks(self):
        self.there_and_back(Stack(Stack()), "begin\nend")
        self.there_and_back(Stack(Stack(), Stack(Stack())), "begin\nend\nbegin\nbegin\nend\nend")
        stack = Stack(PIN, Stack(Rule("key", "optional"), Stack(PIN), Stack()), PIN)
        self.there_and_back(stack, "required pin\nbegin\noptional key\nbegin\nrequired pin\nend\nbegin\nend\nend\nrequired pin")

    def test_words_that_are_names_too(self):
        for name in ("begin", "end", "required", "ok", "login", "optional"):
            self.there_and_back(Stack(Rule(name, "optional")), f"optional {name}")

    def test_the_largest_stack(self):
        text = "\n".join(["required pin"] * 12)
        self.there_and_back(Stack(*[PIN] * 12), text)

    def test_beside_a_second_telling(self):
        rng = random.Random(28)
        for _ in range(200):
            stack = plain.random_stack(rng, MODULES[:5], 10)
            self.there_and_back(stack, plain_text(stack))


class ServiceTextTest(NotationCase):
    def test_empty_phases(self):
        service = Service(Stack(), Stack(), Stack(), Stack())
        self.same(format_service(service), EMPTY)
        self.assertEqual(parse_service(EMPTY), service)

    def test_each_phase(self):
        for place in range(4):
            stacks = [Stack()] * 4
            stacks[place] = Stack(PIN, Stack(PIN))
            lines = EMPTY.split("\n")
            lines[place + 1:place + 1] = ["required pin", "begin", "required pin", "end"]
            self.same(format_service(Service(*stacks)), "\n".join(lines))
            self.assertEqual(parse_service("\n".join(lines)), Service(*stacks))

    def test_there_and_back(self):
        rng = random.Random(29)
        for _ in range(60):
            service = plain_visits.random_service(rng, MODULES[:5], 6)
            rows = []
            for phase in ("login", "account", "change", "session"):
                text = plain_text(getattr(service, phase))
                rows += [phase + ":"] + ([text] if text else [])
            self.same(format_service(service), "\n".join(rows))
            self.assertEqual(parse_service("\n".join(rows)), service)


class WrongWordsTest(NotationCase):
    def test_wrong_first_words(self):
        for first in ("none", "Required", "required,", "requiredpin", "yes", "pin", "Begin", "begin,", "login", "login:", "ok",
                      "end:", "-", "requir", "optional:", "\t"):
            for rest in ("", " ", " pin", " pin pin"):
                self.wrong(first + rest, 0, 0)
                self.wrong("required pin\n" + first + rest, 1, 0)
        for first in ("account:", "change:", "session:"):
            self.no_stack(first, 0, 0)
            self.no_stack("required pin\n" + first, 1, 0)

    def test_no_four_actions(self):
        for first in ("ok,ok,ok", "ok,ok,ok,ok,ok", "ok", "ok,", ",,,", ",ok,ok,ok", "ok,ok,ok,", "ok,ok,,ok", "ok;ok;ok;ok",
                      "ok,ok,ok,Ok", "ok,ok,ok,okay", "ok,ok,ok,yes", "ok,ok,ok,required", "ok,bad,ignore,bad,bad"):
            self.wrong(first + " pin", 0, 0)

    def test_jumps(self):
        for jump in ("0", "10", "11", "01", "00", "+1", "-1", "1.", "1 ", "x", "\u0661", "\u00b2", "1_0", "", "99", "True"):
            self.wrong(f"{jump},ok,ok,ok pin", 0, 0)
            if " " not in jump:
                self.wrong(f"ok,ok,ok,{jump} pin", 0, 0)
                self.wrong(f"ok,{jump},ok,ok pin", 0, 0)

    def test_actions_that_have_a_kind(self):
        for kind in KINDS:
            self.wrong(",".join(plain.KINDS[kind]) + " pin", 0, 0)
            self.wrong("required pin\n" + ",".join(plain.KINDS[kind]), 1, 0)

    def test_wrong_modules(self):
        for name in ("", "Pin", "abcdefghi", "pin1", "p-n", "pin,", "1", "pin:", "\u00e4", "p\tn"):
            for first in ("required", "1,2,3,4"):
                self.wrong(f"{first} {name}", 0, 1)
                self.wrong(f"{first} {name} pin", 0, 1)
                self.wrong(f"begin\nend\n{first} {name}", 2, 1)

    def test_missing_and_superfluous_words(self):
        for first in KINDS + ("ok,ok,ok,ok",):
            self.wrong(first, 0, 1)
            self.wrong("begin\n" + first + "\nend", 1, 1)
            self.wrong(first + " pin pin", 0, 2)
            self.wrong(first + " pin ", 0, 2)
            self.wrong(first + " pin required pin", 0, 2)
        for row, text in ((0, "begin pin\nend"), (0, "begin \nend"), (1, "begin\nend pin"), (1, "begin\nend end"),
                          (1, "begin\nend "), (0, "begin begin\nend")):
            self.wrong(text, row, 1)

    def test_spaces(self):
        self.wrong("required  pin", 0, 1)
        self.wrong(" required pin", 0, 0)
        self.wrong("  required pin", 0, 0)
        self.wrong(" ", 0, 0)
        self.wrong("required pin\n ", 1, 0)
        self.wrong("required\tpin", 0, 0)
        self.wrong("ok, ok,ok,ok pin", 0, 0)

    def test_empty_rows(self):
        self.wrong("\n", 0, 0)
        self.wrong("\nrequired pin", 0, 0)
        self.wrong("required pin\n", 1, 0)
        self.wrong("required pin\n\nrequired pin", 1, 0)
        self.wrong("begin\n\nend", 1, 0)

    def test_other_line_ends(self):
        self.wrong("required pin\r\nrequired pin", 0, 1)
        self.wrong("begin\r\nend", 0, 0)

    def test_end_without_an_inner_stack(self):
        for text, row in (("end", 0), ("end pin", 0), ("begin\nend\nend", 2), ("begin\nbegin\nend\nend\nend", 4),
                          ("required pin\nend\nbegin", 1), ("begin\nend\nend\nend", 2)):
            self.no_stack(text, row, 0)
            self.no_service("login:\n" + text + "\naccount:\nchange:\nsession:", row + 1, 0)

    def test_rows_that_end_too_early(self):
        for text in ("begin", "begin\nbegin\nend", "required pin\nbegin\nrequired pin", "begin\nend\nbegin"):
            self.no_stack(text, len(text.split("\n")), 0)

    def test_the_first_wrong_word(self):
        self.wrong("required Pin pin\nnone", 0, 1)
        self.wrong("required pin pin\nnone", 0, 2)
        self.wrong("none Pin", 0, 0)
        self.wrong("required pin\nrequired\nrequired Pin\nend", 1, 1)
        self.wrong("begin\nrequired pin\nbegin x\nnone", 2, 1)
        self.no_stack("begin\nnone", 1, 0)


class WrongServicesTest(NotationCase):
    def test_a_phase_out_of_turn(self):
        for text, row in (("account:", 0), ("login:\nlogin:", 1), ("login:\nchange:", 1), ("login:\nsession:", 1),
                          ("login:\naccount:\nlogin:", 2), ("login:\naccount:\nsession:\nchange:", 2),
                          ("account:\nlogin:\nchange:\nsession:", 0), (EMPTY + "\nlogin:", 4), (EMPTY + "\nsession:", 4),
                          (EMPTY + "\nrequired pin\nsession:", 5), ("login:\nrequired pin\nchange:", 2)):
            self.no_service(text, row, 0)

    def test_no_phase_at_first(self):
        for text in ("required pin", "begin", "required pin\nlogin:", "end", " login:", "login", "Login:", "login::", "login :",
                     "required", "ok", "\n" + EMPTY):
            self.no_service(text, 0, 0)

    def test_words_behind_a_phase(self):
        self.no_service("login: pin", 0, 1)
        self.no_service("login: ", 0, 1)
        self.no_service("login:\naccount: required pin", 1, 1)
        self.no_service("login:\nchange: pin", 1, 0)
        self.no_service("login: login:\nnone", 0, 1)

    def test_a_phase_in_an_inner_stack(self):
        self.no_service("login:\nbegin\naccount:\nend", 2, 0)
        self.no_service("login:\naccount:\nchange:\nbegin\nsession:", 4, 0)

    def test_rows_that_end_too_early(self):
        for text in ("login:", "login:\naccount:\nchange:", "login:\nrequired pin", EMPTY + "\nbegin",
                     EMPTY + "\nbegin\nrequired pin", "login:\nbegin"):
            self.no_service(text, len(text.split("\n")), 0)
        self.no_service("", 0, 0)

    def test_end_without_an_inner_stack(self):
        self.no_service("login:\nend", 1, 0)
        self.no_service("login:\nbegin\nend\naccount:\nend", 4, 0)

    def test_an_empty_row(self):
        self.no_service(EMPTY + "\n", 4, 0)
        self.no_service("login:\n\naccount:", 1, 0)


class InvalidStackTest(NotationCase):
    def test_too_much(self):
        self.fails(InvalidStack, parse_stack, "\n".join(["required pin"] * 13), index=12)
        self.fails(InvalidStack, parse_stack, "\n".join(f"required {name}" for name in MODULES), index=6)
        self.fails(InvalidStack, parse_stack, "begin\nbegin\nbegin\nend\nend\nend", index=0)
        self.fails(InvalidStack, parse_stack, "required pin\n" + "begin\n" * 20 + "\n".join(["end"] * 20), index=0)
        self.fails(InvalidStack, parse_stack, "required pin\nbegin\nbegin\nbegin\nend\nend\nend", index=1)

    def test_an_inner_stack_ahead_of_the_one_around_it(self):
        thirteen = "\n".join(["begin\nend"] * 13)
        self.fails(InvalidStack, parse_stack, "required pin\nbegin\n" + thirteen + "\nend", index=12)
        # The outer stack has too many modules from its second entry on, the inner one behind has too many rules.
        text = "\n".join(f"required {name}" for name in MODULES)
        text += "\nbegin\n" + "\n".join(["required pin"] * 14) + "\nend"
        self.fails(InvalidStack, parse_stack, text, index=12)
        self.fails(InvalidStack, parse_stack, "required pin\nbegin\nrequired pin\nbegin\n" + thirteen + "\nend\nend", index=12)

    def test_a_wrong_word_ahead_of_it(self):
        text = "\n".join(["required pin"] * 13)
        self.fails(InvalidText, parse_stack, text + "\nnone", row=13, word=0)
        self.fails(InvalidText, parse_stack, "begin\n" + text, row=14, word=0)
        self.fails(InvalidText, parse_service, "login:\n" + text, row=14, word=0)

    def test_in_services(self):
        text = EMPTY.replace("change:", "change:\n" + "\n".join(["required pin"] * 13))
        self.fails(InvalidStack, parse_service, text, index=12)

    def test_invalid_service(self):
        rows = ["login:"] + [f"required {name}" for name in "abcdef"] + ["account:", "required f", "change:", "required g"]
        self.fails(InvalidService, parse_service, "\n".join(rows + ["session:"]), part="change")
        self.fails(InvalidText, parse_service, "\n".join(rows), row=11, word=0)
        late = rows + ["session:"] + ["required a"] * 13
        self.fails(InvalidStack, parse_service, "\n".join(late), index=12)
        rows[-1] = "required e"
        self.assertEqual(len(parse_service("\n".join(rows + ["session:"])).modules), 6)
        self.same(idle_stack("abcdef").modules, parse_service("\n".join(rows + ["session:"])).modules)


if __name__ == "__main__":
    unittest.main()

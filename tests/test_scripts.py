"""Point 30: scripts."""

import random
import unittest

from loginstacks.errors import ExecutionFailed, ScriptError, TooLong
from loginstacks.rules import Rule
from loginstacks.scripts import run_script
from loginstacks.stacks import Stack
from tests import plain
from tests.support import Case

KEY, PIN = Rule("key", "sufficient"), Rule("pin", "required")
KINDS = ("required", "requisite", "sufficient", "optional")


class PlainMachine:
    """A second telling of how a script is executed, on lists of rules and of nested rows."""

    def __init__(self, rows):
        self.rules, self.told, self.output, self.steps = [], {}, [], 0
        self.rows = list(enumerate(row.split(" ") for row in rows))
        self.end = self.execute(self.block())

    def block(self):
        """The rows up to the next end, each with its number and, for a block, the rows in it."""
        found = []
        while self.rows:
            number, words = self.rows.pop(0)
            if words[0] == "end":
                break
            found.append((number, words, self.block() if words[0] in ("repeat", "when") else []))
        return found

    def execute(self, block):
        """Executes rows; returns how this fails, or None."""
        for number, words, inner in block:
            self.steps += 1
            failure = "TooLong" if self.steps > 300 else self.execute_row(number, words, inner)
            if failure is not None:
                return failure
        return None

    def execute_row(self, number, words, inner):
        if words[0] == "repeat":
            for _ in range(int(words[1])):
                self.steps += 1
                failure = "TooLong" if self.steps > 300 else self.execute(inner)
                if failure is not None:
                    return failure
        elif words[0] == "when":
            return self.execute(inner) if self.now()[0] == words[1] else None
        elif words[0] == "tell":
            self.told[words[1]] = words[2]
        elif words[0] == "run":
            self.output.append(self.now()[0])
        elif words[0] == "rules":
            self.output.append(" ".join(map(str, self.now()[1])) or "-")
        else:
            return None if self.change(*words) else number
        return None

    def now(self):
        stack = Stack(*self.rules)
        return plain.told(stack, {name: self.told.get(name, "skip") for name in stack.modules})

    def change(self, word, first, module=None):
        """Changes the rules, and returns whether this can be."""
        if word == "add":
            control = first if first in KINDS else tuple(int(part) if part.isdigit() else part for part in first.split(","))
            if len(self.rules) == 12 or len({rule.module for rule in self.rules} | {module}) > 6:
                return False
            self.rules.append(Rule(module, control))
            return True
        at = int(first)
        if at + (word == "swap") >= len(self.rules):
            return False
        if word == "drop":
            del self.rules[at]
        else:
            self.rules[at:at + 2] = [self.rules[at + 1], self.rules[at]]
        return True


class ScriptCase(Case):
    def runs(self, rows, stack, output):
        found = run_script("\n".join(rows))
        self.assertEqual(found, (stack, output))
        self.assertIsInstance(found, tuple)
        self.assertIsInstance(found[1], list)

    def writes(self, rows, output):
        self.assertEqual(run_script("\n".join(rows))[1], output)

    def no_script(self, rows, row):
        self.fails(ScriptError, run_script, "\n".join(rows), row=row)

    def stops(self, rows, row):
        self.fails(ExecutionFailed, run_script, "\n".join(rows), row=row)

    def takes(self, rows, steps):
        """Checks how many steps rows take, by how many others there can be ahead of them."""
        run_script("\n".join(rows_of_steps(300 - steps) + rows))
        self.fails(TooLong, run_script, "\n".join(rows_of_steps(301 - steps) + rows))


def rows_of_steps(many):
    """Rows that take so many steps."""
    rows = []
    while many > 12:
        # The repeat is a step, and so is each time that its rows are executed, beside the row itself.
        rounds = min(99, (many - 1) // 2)
        rows += [f"repeat {rounds}", "run", "end"]
        many -= 1 + 2 * rounds
    return rows + ["run"] * many


class ExamplesTest(ScriptCase):
    def test_example(self):
        stack, output = run_script("add sufficient key\nadd required pin\nrun\ntell key yes\nrun\nrules\nrepeat 2\nswap 0\n"
                                   "end\nwhen in\ndrop 1\nend")
        self.same([stack.modules, output], [("key",), ["out", "in", "0"]])

    def test_example_error(self):
        self.fails(ScriptError, run_script, "add required pin\nend", row=1)


class RowsTest(ScriptCase):
    def test_the_empty_text(self):
        self.assertEqual(run_script(""), (Stack(), []))

    def test_add(self):
        for kind in KINDS:
            self.runs(["add required pin", f"add {kind} key"], Stack(PIN, Rule("key", kind)), [])
        self.runs(["add 1,9,reset,die abcdefgh"], Stack(Rule("abcdefgh", (1, 9, "reset", "die"))), [])
        self.runs(["add required pin"] * 12, Stack(*[PIN] * 12), [])

    def test_drop(self):
        rows = ["add required pin", "add sufficient key", "add optional card"]
        self.runs(rows + ["drop 0"], Stack(KEY, Rule("card", "optional")), [])
        self.runs(rows + ["drop 2"], Stack(PIN, KEY), [])
        self.runs(rows + ["drop 1", "drop 1", "drop 0"], Stack(), [])
        self.runs(["add required pin"] * 12 + ["drop 11", "drop 10"], Stack(*[PIN] * 10), [])

    def test_swap(self):
        rows = ["add required pin", "add sufficient key", "add optional card"]
        self.runs(rows + ["swap 0"], Stack(KEY, PIN, Rule("card", "optional")), [])
        self.runs(rows + ["swap 1"], Stack(PIN, Rule("card", "optional"), KEY), [])

    def test_tell_and_run(self):
        self.writes(["add required pin", "run", "tell pin yes", "run", "tell pin no", "run", "tell pin yes", "run",
                     "tell pin gone", "run", "tell pin skip", "run"], ["out", "in", "out", "in", "out", "out"])
        self.writes(["run"], ["out"])

    def test_skip_is_told_at_first(self):
        self.writes(["add bad,bad,ok,bad pin", "run", "tell pin yes", "run"], ["in", "out"])

    def test_modules_that_the_stack_does_not_have(self):
        self.runs(["tell pin yes", "run", "tell zoo no", "add required pin", "run", "drop 0", "run", "add required pin", "run"],
                  Stack(PIN), ["out", "in", "out", "in"])
        self.writes([f"tell {name} yes" for name in "abcdefghij"] + ["add required j", "run"], ["in"])

    def test_rules(self):
        self.writes(["rules", "add sufficient key", "rules", "add required pin", "rules", "tell key yes", "rules"],
                    ["-", "0", "0 1", "0"])
        self.writes(["add 1,2,2,1 key", "add required pin", "rules"], ["0"])
        self.writes(["add required pin"] * 12 + ["rules"], ["0 1 2 3 4 5 6 7 8 9 10 11"])

    def test_names_that_are_rows_too(self):
        self.runs(["add required end", "add optional repeat", "tell end yes", "run"],
                  Stack(Rule("end", "required"), Rule("repeat", "optional")), ["in"])


class BlocksTest(ScriptCase):
    def test_repeat(self):
        self.writes(["repeat 3", "run", "rules", "end", "run"], ["out", "-"] * 3 + ["out"])
        self.writes(["repeat 1", "run", "end"], ["out"])
        self.writes(["repeat 99", "run", "end"], ["out"] * 99)

    def test_repeat_0(self):
        self.writes(["repeat 0", "run", "end", "rules"], ["-"])
        # Rows that are not executed cannot fail.
        self.runs(["repeat 0", "drop 99", "repeat 99", "swap 5", "end", "end", "add required pin"], Stack(PIN), [])

    def test_when(self):
        rows = ["add required pin", "when in", "rules", "end", "when out", "run", "end"]
        self.writes(rows, ["out"])
        self.writes(["tell pin yes"] + rows, ["0"])
        self.writes(["when out", "run", "end", "when in", "drop 7", "end"], ["out"])

    def test_the_outcome_counts_where_the_block_begins(self):
        self.writes(["add required pin", "tell pin yes", "when in", "tell pin no", "run", "end", "when in", "run", "end"], ["out"])
        self.writes(["add required pin", "repeat 2", "when out", "tell pin yes", "rules", "end", "run", "end"], ["0", "in", "in"])

    def test_empty_blocks(self):
        self.runs(["repeat 7", "end", "when in", "end", "when out", "end"], Stack(), [])

    def test_four_deep(self):
        rows = ["repeat 2", "when out", "repeat 3", "when out", "run", "end", "rules", "end", "end", "end", "run"]
        self.writes(rows, (["out", "-"] * 3) * 2 + ["out"])
        rows = ["repeat 2", "repeat 2", "repeat 2", "repeat 2", "run", "end", "end", "end", "end"]
        self.writes(rows, ["out"] * 16)
        # Blocks beside one another are not deeper.
        self.writes(rows[:4] + ["run", "end", "repeat 1", "end", "end", "when in", "repeat 1", "end", "end", "end", "end"],
                    ["out"] * 16)

    def test_rows_of_a_repeat_change_what_follows(self):
        self.runs(["repeat 4", "add required pin", "end", "repeat 3", "drop 0", "end"], Stack(PIN), [])
        self.runs(["add required pin", "add sufficient key", "repeat 3", "swap 0", "end"], Stack(KEY, PIN), [])


class ScriptErrorTest(ScriptCase):
    def wrong(self, row):
        """Checks that this is no row, wherever it stands."""
        self.no_script([row, "none"], 0)
        self.no_script(["run", row], 1)
        self.no_script(["add required pin", "repeat 2", row, "end"], 2)
        self.no_script(["repeat 0", "when in", row], 2)

    def test_unknown_rows(self):
        for row in ("none", "Run", "run,", "adds required pin", "put 0", "tells pin yes", "ends", "else", "-", "required pin",
                    "begin", "0", "rule", "\t"):
            self.wrong(row)

    def test_too_few_and_too_many_words(self):
        for row in ("add", "add required", "add required pin pin", "drop", "drop 0 0", "swap", "swap 0 1", "tell", "tell pin",
                    "tell pin yes yes", "run 0", "run run", "rules 1", "repeat", "repeat 1 1", "when", "when in out",
                    "end 0", "end end"):
            self.wrong(row)
        self.no_script(["repeat 1", "end 1"], 1)

    def test_no_control(self):
        for control in ("none", "Required", "ok", "ok,ok,ok", "ok,ok,ok,ok,ok", "ok,ok,ok,0", "ok,ok,ok,10", "ok,ok,ok,01", "",
                        "ok,ok,,ok", "ok,bad,ignore,bad", "ok,die,ignore,die", "done,ignore,ignore,ignore",
                        "ok,ignore,ignore,ignore", "ok,ok,ok,yes", "begin", "1", "pin", "ok,ok,ok,ok,"):
            self.wrong(f"add {control} pin")

    def test_no_module(self):
        for name in ("Pin", "abcdefghi", "pin1", "p-n", "1", "", "pin,key", "\u00e4"):
            self.wrong(f"add required {name}")
            self.wrong(f"tell {name} yes")

    def test_no_result(self):
        for result in ("", "Yes", "in", "out", "ok", "none", "0"):
            self.wrong(f"tell pin {result}")

    def test_no_outcome(self):
        for word in ("", "In", "yes", "open", "0", "good"):
            self.wrong(f"when {word}")

    def test_no_numbers(self):
        for number in ("00", "01", "09", "007", "000", "100", "999", "-1", "+1", "-0", "1.", "1,", "x", "", "0x1", "1_0", "ten",
                       "\u0661", "\u00b2", "True", "1a", "1\t"):
            for word in ("drop", "swap", "repeat"):
                self.wrong(f"{word} {number}")

    def test_numbers(self):
        for number in (0, 1, 9, 10, 90, 99):
            self.writes([f"repeat {number}", "run", "end"], ["out"] * number)
            for word in ("drop", "swap"):
                self.stops([f"{word} {number}"], 0)

    def test_spaces_and_empty_rows(self):
        for row in ("", " ", "run ", " run", "  run", "add  required pin", "add required  pin", "add required pin ", "drop  0",
                    "run\r", "repeat 1 "):
            self.wrong(row)
        self.no_script(["", "run"], 0)
        self.no_script(["run", ""], 1)
        self.no_script(["run", "", "run"], 1)
        self.no_script(["", ""], 0)

    def test_end_without_a_block(self):
        self.no_script(["end"], 0)
        self.no_script(["repeat 2", "run", "end", "end", "none"], 3)
        self.no_script(["when in", "repeat 2", "end", "end", "run", "end"], 5)

    def test_a_missing_end(self):
        for rows in (["repeat 2"], ["when in", "run"], ["repeat 2", "when in", "end"], ["run", "repeat 0", "repeat 0", "end", "run"]):
            self.no_script(rows, len(rows))
        self.no_script(["run"] * 59 + ["repeat 0"], 60)
        self.no_script(["repeat 0"] + ["run"] * 60, 60)

    def test_a_fifth_block(self):
        four = ["repeat 1", "when in", "repeat 1", "when out"]
        for fifth in ("repeat 0", "when in"):
            self.no_script(four + [fifth] + ["end"] * 5, 4)
            self.no_script(four + ["end", "run", "when in", fifth] + ["end"] * 5, 7)
            self.no_script(four + ["run", fifth], 5)
        self.no_script(four + ["none"], 4)
        self.no_script(four + ["end"] * 4 + four + ["repeat x"], 12)

    def test_sixty_one_rows(self):
        self.writes(["run"] * 60, ["out"] * 60)
        self.no_script(["run"] * 61, 60)
        self.no_script(["run"] * 60 + ["none"], 60)
        self.no_script(["run"] * 59 + ["none", "run"], 59)
        self.no_script(["run"] * 80, 60)
        self.no_script(["repeat 1"] + ["run"] * 59 + ["end"], 60)
        self.no_script(["run"] * 60 + [""], 60)

    def test_the_first_wrong_row(self):
        self.no_script(["run", "none", "", "end"], 1)
        self.no_script(["run", "end", "none"], 1)
        self.no_script(["repeat 1", "none"], 1)

    def test_ahead_of_what_would_fail(self):
        for rows in (["drop 0"], ["add required pin"] * 13, ["repeat 99", "repeat 99", "run", "end", "end"]):
            self.no_script(rows + ["run", "none"], len(rows) + 1)
            self.no_script(rows + ["end"], len(rows))
            self.no_script(rows + ["when in"], len(rows) + 1)
            self.no_script(rows + ["run"] * (61 - len(rows)), 60)


class ExecutionFailedTest(ScriptCase):
    def test_no_such_entry(self):
        pins = ["add required pin"] * 2
        self.stops(["drop 0"], 0)
        self.stops(["swap 0"], 0)
        self.stops(pins + ["drop 2"], 2)
        self.stops(pins + ["drop 99"], 2)
        self.stops(pins + ["run", "swap 1", "run"], 3)
        self.stops(pins + ["swap 2"], 2)
        self.stops(pins + ["drop 0", "swap 0"], 3)

    def test_a_rule_too_many(self):
        self.stops(["add required pin"] * 13, 12)
        self.stops(["repeat 12", "add required pin", "end", "run", "add optional pin"], 4)
        self.stops(["repeat 13", "add required pin", "end"], 1)

    def test_a_module_too_many(self):
        rows = [f"add required {name}" for name in "abcdef"]
        self.stops(rows + ["add required g"], 6)
        self.stops(rows + ["add required a", "add optional g"], 7)
        self.runs(rows + ["drop 0", "add required g"], Stack(*[Rule(name, "required") for name in "bcdefg"]), [])

    def test_in_blocks(self):
        self.stops(["add required pin", "repeat 2", "run", "drop 0", "end"], 3)
        self.stops(["when out", "when out", "run", "drop 0", "end", "end"], 3)
        self.runs(["when in", "drop 0", "end"], Stack(), [])


class StepsTest(ScriptCase):
    def test_rows(self):
        for row in ("run", "rules", "add required pin", "tell pin yes", "add 1,2,3,4 pin"):
            self.takes([row], 1)
        self.takes(["add required pin", "drop 0"], 2)
        self.takes(["add required pin", "add required pin", "swap 0"], 3)

    def test_blocks(self):
        self.takes(["repeat 0", "run", "run", "end"], 1)
        self.takes(["repeat 5", "end"], 6)
        self.takes(["repeat 1", "run", "end"], 3)
        self.takes(["repeat 3", "run", "rules", "end"], 10)
        self.takes(["repeat 2", "repeat 3", "run", "end", "end"], 1 + 2 * (1 + 1 + 3 * 2))
        self.takes(["when in", "run", "run", "end"], 1)
        self.takes(["when out", "run", "run", "end"], 3)
        self.takes(["when out", "end"], 1)
        self.takes(["repeat 4", "when out", "end", "when in", "run", "end", "end"], 1 + 4 * 3)

    def test_300_and_301_steps(self):
        # 1 + 99 + 99, then 1 + 50 + 50 - 1.
        rows = ["repeat 99", "run", "end", "repeat 50", "run", "end"]
        self.writes(rows, ["out"] * 149)
        self.fails(TooLong, run_script, "\n".join(rows + ["run"]))
        self.fails(TooLong, run_script, "\n".join(["when out"] + rows + ["end"]))
        self.writes(rows[:3] + ["repeat 49", "run", "end", "run", "run"], ["out"] * 150)
        self.fails(TooLong, run_script, "repeat 99\nrepeat 99\nend\nend")

    def test_too_long_ahead_of_what_would_fail(self):
        rows = ["repeat 99", "run", "end", "repeat 50", "run", "end"]
        self.fails(TooLong, run_script, "\n".join(rows + ["drop 0"]))
        rows[3] = "repeat 49"
        self.stops(rows + ["run", "drop 0"], 7)
        self.fails(TooLong, run_script, "\n".join(rows + ["run", "run", "drop 0"]))


class PlainSearchTest(ScriptCase):
    def test_beside_a_second_telling(self):
        rng = random.Random(30)
        ends = {}
        for _ in range(600):
            rows = ["add required a", "add sufficient b"] + random_rows(rng, rng.randint(1, 7), 0)
            machine = PlainMachine(rows)
            ends[str(machine.end)[:1]] = ends.get(str(machine.end)[:1], 0) + 1
            if machine.end is None:
                self.runs(rows, Stack(*machine.rules), machine.output)
            elif machine.end == "TooLong":
                self.fails(TooLong, run_script, "\n".join(rows))
            else:
                self.stops(rows, machine.end)
        self.assertGreater(min(ends["N"], ends["T"]), 20)
        self.assertGreater(600 - ends["N"] - ends["T"], 20)

    def test_two_calls_tell_the_same(self):
        text = "add required pin\nrun\ntell pin yes\nrun"
        first = run_script(text)
        first[1].clear()
        self.assertEqual(run_script(text), (Stack(PIN), ["out", "in"]))


def random_rows(rng, many, depth):
    """So many random rows, where a block counts as one, without wrong ones."""
    rows = []
    for _ in range(many):
        chosen = rng.random()
        if chosen < 0.35 and depth < 4:
            head = rng.choice(("repeat 0", "repeat 2", "repeat 9", "repeat 40", "when in", "when out"))
            rows += [head] + random_rows(rng, rng.randint(0, 3 - depth // 2), depth + 1) + ["end"]
        elif chosen < 0.4:
            control = rng.choice(KINDS + ("1,ok,bad,die", "done,reset,ignore,2"))
            rows.append(f"add {control} {rng.choice('abc')}")
        else:
            rows.append(rng.choice(("run", "rules", "tell a yes", "tell b no", "tell c gone", "tell a skip", "tell b yes",
                                    f"swap {rng.choice('00001')}", f"drop {rng.choice('001')}", "run", "rules", "run")))
    return rows


if __name__ == "__main__":
    unittest.main()

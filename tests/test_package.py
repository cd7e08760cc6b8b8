"""Point 1 and the interface: where the names stand, and that calls leave everything as it was."""

import ast
import copy
import unittest
from pathlib import Path

import loginstacks
from loginstacks import (answers, asking, codec, comparing, covers, ends, harm, locks, needs, notation, removing, runs,
                         scripts, services, settling, trimming, watching, weights)
from loginstacks.errors import StackError
from loginstacks.locks import Lock
from loginstacks.probing import Prober
from loginstacks.registers import Register, Trial
from loginstacks.rules import Rule
from loginstacks.services import Service
from loginstacks.stacks import Stack
from loginstacks.suspects import Suspects
from tests.plain import written
from tests.support import Case

FOLDER = Path(loginstacks.__file__).parent
INTERFACE = {
    "errors": ("StackError", "InvalidRule", "InvalidStack", "UnknownRule", "InvalidPlace", "InvalidAnswers", "TooMany",
               "UnknownModule", "InvalidMode", "UnknownView", "InvalidWeights", "InvalidService", "InvalidNeeds",
               "InvalidCosts", "InvalidLock", "InvalidEvent", "InvalidNumber", "InvalidOwn", "InvalidWord",
               "Contradiction", "InvalidSuspects", "PromiseBroken", "InvalidName", "UnknownName", "InvalidOperation",
               "InvalidText", "DecodeError", "ScriptError", "ExecutionFailed", "TooLong"),
    "rules": ("Rule",),
    "stacks": ("Stack",),
    "runs": ("outcome", "asked", "blamed"),
    "answers": ("answer_count", "in_count", "answers_in", "first_in", "first_out"),
    "settling": ("settled", "open_modules", "least_reason", "least_change"),
    "comparing": ("alike", "is_stricter", "first_difference"),
    "trimming": ("needless", "free_pairs", "least_kept", "least_stack"),
    "harm": ("harms", "fails_open", "harm_shown", "keys", "bars"),
    "asking": ("fewest_questions", "best_first"),
    "watching": ("seen", "views", "could_be", "telling"),
    "weights": ("share_in", "gain", "share_blamed"),
    "services": ("Service", "visit", "phases", "asked_in"),
    "needs": ("visit_with", "held_back", "idle_needs"),
    "ends": ("ends", "first_with", "cheapest_key", "cheapest_bar"),
    "locks": ("Lock", "locked_visits", "locked_until", "most_refusals", "least_time"),
    "probing": ("Prober",),
    "suspects": ("Suspects",),
    "removing": ("least_risk",),
    "registers": ("Register", "Trial"),
    "covers": ("cover", "cover_text", "shortest_cover"),
    "notation": ("format_stack", "format_service", "parse_stack", "parse_service"),
    "codec": ("encode_stack", "decode_stack"),
    "scripts": ("run_script",),
}
METHODS = {
    Rule: ("module", "control", "kind", "__eq__"),
    Stack: ("__len__", "__getitem__", "__add__", "__eq__", "entries", "rules", "modules", "without", "spliced"),
    Service: ("login", "account", "change", "session", "modules", "__eq__"),
    Lock: ("tries", "pause", "growth", "__eq__"),
    Prober: ("candidates", "history", "sure", "run", "kinds", "best_choice", "fewest_runs"),
    Suspects: ("remaining", "history", "see", "groups", "best_answers", "fewest_tests"),
    Register: ("stored", "promises", "history", "put", "take", "swap", "turn", "promise", "go", "store", "undo", "redo",
               "stack", "apply_all", "tried", "replay"),
    Trial: ("hold", "__enter__", "__exit__"),
}


def sample_stack():
    return Stack(Stack(Rule("key", "sufficient"), Rule("card", "sufficient")), Rule("pin", "required"),
                 Rule("lan", (1, "ignore", "reset", "die")), Rule("pin", "requisite"))


def sample_calls():
    """Functions with their arguments, some of them right and some wrong."""
    stack, other = sample_stack(), Stack(Rule("pin", "required"), Rule("tan", "optional"))
    told = {"pin": "yes", "key": "no", "lan": "gone", "card": "skip"}
    wrong = {"pin": "yes", "key": None, "zoo": "yes"}
    calls = [(one, (stack,)) for one in (
        answers.answer_count, answers.in_count, answers.first_in, answers.first_out, trimming.needless,
        trimming.free_pairs, trimming.least_kept, trimming.least_stack, lambda stack: list(answers.answers_in(stack)))]
    calls += [(one, (stack, row)) for row in (told, wrong) for one in (
        runs.outcome, runs.asked, runs.blamed, settling.settled, settling.open_modules, settling.least_reason,
        settling.least_change)]
    calls += [(one, (stack, {"pin": "no"})) for one in (settling.settled, settling.open_modules)]
    calls += [(one, (stack, other)) for one in (
        comparing.alike, comparing.is_stricter, comparing.first_difference, Stack.__add__, Stack.__eq__)]
    calls += [(Stack.without, (stack, numbers)) for numbers in ((3, 0), (1, 1))]
    calls += [(Stack.spliced, (stack, index, 1, (other, "pin")[:index])) for index in (0, 1, 2, 9)]
    calls += sample_calls_of_searches(stack, told, wrong) + sample_calls_of_services(told, wrong)
    return calls + sample_calls_of_what_changes(stack, told, wrong) + sample_calls_of_texts(stack)


def sample_calls_of_searches(stack, told, wrong):
    """Those that tell what spoils, what has to be asked, what is seen and which share succeeds."""
    calls = [(one, (stack,)) for one in (
        harm.harms, harm.fails_open, harm.keys, harm.bars, asking.fewest_questions, asking.best_first)]
    calls += [(harm.harm_shown, (stack, name)) for name in ("lan", "pin", "zoo")]
    calls += [(watching.seen, (stack, row, mode)) for row in (told, wrong) for mode in ("rules", "none")]
    calls += [(one, (stack, mode)) for one in (watching.views, watching.telling) for mode in ("count", "rules", "none")]
    calls += [(watching.could_be, (stack, view)) for view in (("out",), ("out", 4), ("in", (9,)))]
    rows = [{"pin": (1, 2, 3, 4), "lan": (0, 1, 0, 0), "key": (1, 1, 1, 1), "card": (9, 0, 1000, 0)}, {"zoo": [1, 2]}]
    calls += [(one, (stack, row)) for one in (weights.share_in, weights.share_blamed) for row in rows]
    return calls + [(weights.gain, (stack, row, name)) for row in rows for name in ("pin", "zoo")]


def sample_service():
    return Service(Stack(Rule("key", "sufficient"), Rule("pin", "required")), Stack(Rule("card", "optional")),
                   Stack(Rule("pin", "required"), Rule("lan", "required")), sample_stack())


def sample_calls_of_services(told, wrong):
    service, lock = sample_service(), Lock(2, 10, 3)
    told = {**told, "card": "yes"}
    calls = [(one, (service, row)) for one in (services.visit, services.phases, services.asked_in)
             for row in (told, wrong)]
    tables = [{"pin": ("card", "key"), "lan": ("pin",), "key": ("card",)}, {"zoo": ("pin",)}, {"pin": ["key"]}]
    calls += [(one, (service, table, row)) for one in (needs.visit_with, needs.held_back) for table in tables
              for row in (told, wrong)]
    calls += [(needs.idle_needs, (service, table)) for table in tables]
    calls += [(ends.ends, (service,))]
    calls += [(ends.first_with, (service, *end)) for end in (("opened", "session"), ("opened", "login"))]
    calls += [(one, (service, costs)) for one in (ends.cheapest_key, ends.cheapest_bar)
              for costs in ({"pin": 3, "lan": 0, "key": 1000, "card": 7}, {"pin": True, "zoo": 1})]
    events = [(time, name, told) for time, name in ((0, "bo"), (0, "ann"), (3, "bo"), (4, "ann"))]
    calls += [(one, (service, lock, rows)) for one in (locks.locked_visits, locks.locked_until)
              for rows in (events, events[::-1], [])]
    calls += [(one, (lock, number)) for one in (locks.most_refusals, locks.least_time) for number in (7, -1, True)]
    return calls + [(Service.__eq__, (service, sample_service())), (Lock.__eq__, (lock, Lock(2, 10, 3)))]


def after_runs(stack, own, runs_made):
    """What a new prober tells behind some runs."""
    prober = Prober(stack, own)
    numbers = [prober.run(choice, word) for choice, word in runs_made]
    return [numbers, prober.candidates, prober.history, prober.sure, prober.kinds(), prober.best_choice(),
            prober.fewest_runs()]


def after_sights(stacks, sights):
    """What new suspects tell behind some sights."""
    suspects = Suspects(stacks)
    numbers = [suspects.see(row, word) for row, word in sights]
    return [numbers, suspects.remaining, suspects.history, suspects.groups(), suspects.best_answers(),
            suspects.fewest_tests()]


def after_operations(stack, operations):
    """What a new register tells behind some operations."""
    desk = Register(stack)
    results = [desk.tried(operations, False), desk.apply_all(operations)]
    again = Register.replay(stack, desk.history)
    return results + [[one.stack(), one.stored, one.promises, one.history] for one in (desk, again)]


def sample_calls_of_what_changes(stack, told, wrong):
    """Those of objects that change; each object is made by the call itself."""
    choices = [{"key": "no", "lan": "gone"}, {"key": "yes", "lan": "yes"}, {"zoo": "yes"}]
    calls = [(after_runs, (stack, ("key", "lan"), [(choice, word)])) for choice in choices for word in ("in", "out", "")]
    calls += [(after_runs, (stack, own, [])) for own in (["key"], ("pin", "key"), ("card", "key", "lan"))]
    stacks = (stack, Stack(Rule("pin", "required")), stack.without((1,)))
    calls += [(after_sights, (stacks, [(row, word)])) for row in (told, wrong) for word in ("in", "out", "")]
    calls += [(after_sights, (few, [])) for few in ((), stacks * 3)]
    calls += [(removing.least_risk, (stack, numbers)) for numbers in ((3, 0, 2), (3, 3), tuple(range(7)))]
    lists = [[("put", 1, Rule("pin", "optional")), ("promise", {"key": "yes", "pin": "yes"}, "in"), ("store", "a"),
              ("undo",), ("turn", 2, ("ok", "ok", 1, "ok"))], [("take", 0), ("promise", {"zoo": "yes"}, "in")], [["put"]],
             [("promise", told, "out")], [("take", 0), ("swap", True)]]
    return calls + [(after_operations, (stack, operations)) for operations in lists]


def sample_calls_of_texts(stack):
    """Those of covers, texts, codes and scripts."""
    calls = [(one, (stack,)) for one in (
        covers.cover, covers.cover_text, covers.shortest_cover, notation.format_stack, codec.encode_stack)]
    calls += [(covers.shortest_cover, (Stack(*[Rule(name, "optional") for name in "abcde"]),)),
              (notation.format_service, (sample_service(),))]
    text = notation.format_stack(stack)
    calls += [(notation.parse_stack, (one,)) for one in (text, text + "\nend", "\n".join([text] * 3))]
    text = notation.format_service(sample_service())
    calls += [(notation.parse_service, (one,)) for one in (text, text + "\nend", text[1:])]
    code = codec.encode_stack(stack)
    calls += [(codec.decode_stack, (one,)) for one in (code, code[:-1] + [True], code[:9], [])]
    rows = ["add required pin", "repeat 2", "tell pin yes", "run", "rules", "end", "drop 0", "drop 0"]
    return calls + [(scripts.run_script, ("\n".join(rows[:many]),)) for many in (1, 3, 6, 7, 8)]


def plainly(value):
    """A value as lists, dicts and tuples of what can be compared by its text."""
    if isinstance(value, Stack):
        return ["stack", written(value)]
    if isinstance(value, Rule):
        return ["rule", value.module, value.control]
    if isinstance(value, Service):
        return [plainly(stack) for stack in (value.login, value.account, value.change, value.session)]
    if isinstance(value, Lock):
        return ["lock", value.tries, value.pause, value.growth]
    if isinstance(value, (list, tuple)):
        return type(value)(plainly(part) for part in value)
    if isinstance(value, dict):
        return {name: plainly(value[name]) for name in value}
    return value


def told(call, arguments):
    """What a call returns, or the error that it raises."""
    try:
        return call(*arguments)
    except StackError as error:
        return (type(error).__name__, dict(vars(error)))


def spoil(value):
    """Changes all lists and dicts within a value."""
    if isinstance(value, (list, tuple)):
        for part in value:
            spoil(part)
    if isinstance(value, dict):
        value["spoiled"] = "spoiled"
    if isinstance(value, list):
        value.append("spoiled")


def asks_for_none(test):
    """Whether a test asks names and attributes for None alone."""
    if isinstance(test, ast.BoolOp):
        return all(asks_for_none(part) for part in test.values)
    if isinstance(test, ast.UnaryOp):
        return isinstance(test.op, ast.Not) and asks_for_none(test.operand)
    return (isinstance(test, ast.Compare) and isinstance(test.left, (ast.Name, ast.Attribute))
            and len(test.ops) == 1 and isinstance(test.ops[0], (ast.Is, ast.IsNot))
            and isinstance(test.comparators[0], ast.Constant) and test.comparators[0].value is None)


class CallsTest(Case):
    def test_no_argument_is_changed(self):
        for call, arguments in sample_calls():
            before = copy.deepcopy(plainly(arguments))
            told(call, arguments)
            self.same(plainly(arguments), before)

    def test_two_calls_tell_the_same(self):
        for call, arguments in sample_calls():
            self.same(plainly(told(call, arguments)), plainly(told(call, arguments)))

    def test_what_is_returned_may_be_changed(self):
        for call, arguments in sample_calls():
            found = told(call, arguments)
            before = copy.deepcopy(plainly(found))
            spoil(found)
            self.same(plainly(told(call, arguments)), before)

    def test_arguments_are_not_kept(self):
        told_before = {"pin": "no", "key": "no", "lan": "skip", "card": "no"}
        stack = sample_stack()
        before = runs.asked(stack, told_before)
        told_before["key"] = "yes"
        self.assertNotEqual(runs.asked(stack, told_before), before)
        entries = [Rule("pin", "required"), Rule("key", "required")]
        stack = Stack(*entries)
        entries.clear()
        self.assertEqual(len(stack), 2)

    def test_events_and_their_answers_are_not_kept(self):
        told = {"pin": "no", "key": "no", "lan": "skip", "card": "no"}
        events = [(0, "ann", told), (0, "ann", told)]
        first = locks.locked_until(sample_service(), Lock(2, 10, 3), events)
        told["pin"] = "yes"
        self.same(first, {"ann": 10})
        self.same(locks.locked_until(sample_service(), Lock(2, 10, 3), events), {})

    def test_errors_change_nothing(self):
        stack = sample_stack()
        for call in (lambda: stack.without((0, 9)), lambda: stack.spliced(0, 1, (None,)), lambda: stack.spliced(9, 1, ()),
                     lambda: stack + Stack(*[stack[0]] * 6), lambda: runs.asked(stack, {})):
            with self.assertRaises(StackError):
                call()
            self.assertEqual(stack, sample_stack())
            self.assertEqual(written(stack), written(sample_stack()))


class FilesTest(Case):
    def test_the_folder_holds_nothing_else(self):
        found = [path.name for path in FOLDER.iterdir() if path.name != "__pycache__"]
        self.assertEqual([name for name in found if not name.endswith(".py")], [])
        self.assertIn("__init__.py", found)

    def test_names_are_defined_in_their_files(self):
        for name, names in INTERFACE.items():
            tree = ast.parse((FOLDER / f"{name}.py").read_text())
            defined = [node.name for node in tree.body if isinstance(node, (ast.FunctionDef, ast.ClassDef))]
            self.assertEqual([one for one in names if one not in defined], [])

    def test_methods_are_defined_in_their_classes(self):
        for one, names in METHODS.items():
            self.assertEqual([name for name in names if name not in vars(one)], [])

    def test_ends_of_blocks_ask_for_none_alone(self):
        # Rules and stacks have an `__eq__` or a `__len__`, and beside these an `__exit__` may ask nothing else.
        ends_found = [node for path in FOLDER.glob("*.py") for node in ast.walk(ast.parse(path.read_text()))
                      if isinstance(node, ast.FunctionDef) and node.name == "__exit__"]
        self.assertEqual(len(ends_found), 1)
        for end in ends_found:
            wrong = [ast.unparse(node) for node in ast.walk(end)
                     if isinstance(node, ast.If) and not asks_for_none(node.test)]
            self.assertEqual(wrong, [])

    def test_nothing_from_outside_is_imported(self):
        for path in FOLDER.glob("*.py"):
            for node in ast.walk(ast.parse(path.read_text())):
                self.assertNotIsInstance(node, ast.Import)
                if isinstance(node, ast.ImportFrom) and node.module != "math":
                    self.assertEqual((node.module.split(".")[0], node.level), ("loginstacks", 0))


if __name__ == "__main__":
    unittest.main()

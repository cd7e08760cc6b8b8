"""Services of four stacks, and the visits that go through them (point 16)."""

from loginstacks.answers import answers_with
from loginstacks.errors import InvalidService
from loginstacks.runs import Teller, check_answers, run_of
from loginstacks.stacks import MOST_MODULES

PHASES = ("login", "account", "change", "session")
# The phase that follows another one at whose end the mark is this one; behind any others the visit ends.
FOLLOWING = {
    ("login", "good"): "account",
    ("account", "good"): "session",
    ("account", "none"): "change",
    ("change", "good"): "session",
}


class Service:
    """A service, which has a stack for each phase of a visit."""

    def __init__(self, login, account, change, session):
        modules = []
        for part, stack in zip(PHASES, (login, account, change, session)):
            modules = sorted(set(modules) | set(stack.modules))
            if len(modules) > MOST_MODULES:
                raise InvalidService(part)
        self._login = login
        self._account = account
        self._change = change
        self._session = session
        self._modules = tuple(modules)

    @property
    def login(self):
        """The stack that decides who is known."""
        return self._login

    @property
    def account(self):
        """The stack that decides whether an account may be used."""
        return self._account

    @property
    def change(self):
        """The stack that decides whether what has to be changed was changed."""
        return self._change

    @property
    def session(self):
        """The stack that decides whether a session begins."""
        return self._session

    @property
    def modules(self):
        """The ascending tuple of the names of all modules."""
        return self._modules

    def __eq__(self, other):
        return isinstance(other, Service) and stacks_of(self) == stacks_of(other)


def stacks_of(service):
    """The list of the stacks of a service, in the order of the phases."""
    return [service.login, service.account, service.change, service.session]


def runs_of_visit(service, teller):
    """The list of tuples (phase, run) of a visit, in order."""
    stacks = dict(zip(PHASES, stacks_of(service)))
    found = []
    phase = PHASES[0]
    while phase is not None:
        run = run_of(stacks[phase], teller)
        found.append((phase, run))
        phase = FOLLOWING.get((phase, run.mark))
    return found


def end_of_visit(service, teller):
    """How a visit ends and at which phase."""
    phase, run = runs_of_visit(service, teller)[-1]
    if phase == "session" and run.mark != "bad":
        return ("opened", phase)
    return ("refused", phase)


def ends_of_answers(service):
    """The list of all answers, in order, each with how a visit ends and at which phase."""
    return [(answers, end_of_visit(service, Teller(answers))) for answers in answers_with(service.modules, {})]


def runs_told(service, answers):
    """The list of tuples (phase, run) of a visit with answers that are checked."""
    check_answers(service.modules, answers)
    return runs_of_visit(service, Teller(answers))


def visit(service, answers):
    """How a visit ends, "opened" or "refused", and at which phase."""
    check_answers(service.modules, answers)
    return end_of_visit(service, Teller(answers))


def phases(service, answers):
    """The list of the phases that are run, in order."""
    return [phase for phase, _ in runs_told(service, answers)]


def asked_in(service, answers):
    """The list of tuples (phase, number) of all rules that are asked, in order."""
    return [(phase, number) for phase, run in runs_told(service, answers) for number in run.numbers]

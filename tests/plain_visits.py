"""A plain second telling of what the document says of visits."""

from loginstacks.services import Service
from tests import plain

ENDS = [("refused", "login"), ("refused", "account"), ("refused", "change"), ("refused", "session"),
        ("opened", "session")]


class TokenAnswers(dict):
    """Answers that are told in one visit with needs."""

    def __init__(self, answers, needs):
        super().__init__(answers)
        self.needs, self.tokens, self.held = needs, set(), set()

    def __getitem__(self, name):
        own = super().__getitem__(name)
        if not self.tokens.issuperset(self.needs.get(name, ())):
            if own != "skip":
                self.held.add(name)
            return "skip"
        if own == "yes":
            self.tokens.add(name)
        return own


class Visit:
    """A visit, with its result, its phases, the rules that were asked and the modules that were held back."""

    def __init__(self, service, answers, needs=None):
        self.stacks = {"login": service.login, "account": service.account, "change": service.change,
                       "session": service.session}
        self.answers = TokenAnswers(answers, needs or {})
        self.phases, self.asked = [], []
        self.end = (self.result(), self.phases[-1])
        self.held = sorted(self.answers.held)

    def mark_of(self, phase):
        mark, _, asked = plain.walk(plain.written(self.stacks[phase]), self.answers, "none", None)
        self.phases.append(phase)
        self.asked += [(phase, number) for number in asked]
        return mark

    def result(self):
        if self.mark_of("login") != "good":
            return "refused"
        mark = self.mark_of("account")
        if mark == "bad" or (mark == "none" and self.mark_of("change") != "good"):
            return "refused"
        return "refused" if self.mark_of("session") == "bad" else "opened"


def end(service, answers, needs=None):
    return Visit(service, answers, needs).end


def all_ends(service, needs=None):
    """All answers, in order, each with how its visit ends."""
    return [(row, end(service, row, needs)) for row in plain.all_answers(service.modules)]


def random_service(rng, modules, rules=5):
    return Service(*[plain.random_stack(rng, modules, rules) for _ in range(4)])


def random_services(rng, modules, many, variety):
    """Random services whose visits end in so many different ways, or more, as the answers are."""
    found = []
    while len(found) < many:
        service = random_service(rng, modules)
        if len({one for _, one in all_ends(service)}) >= variety:
            found.append(service)
    return found


def random_needs(rng, modules):
    needs = {}
    for name in rng.sample(modules, rng.randint(1, len(modules))):
        others = [other for other in modules if other != name]
        wanted = rng.sample(others, rng.randint(0, len(others)))
        if wanted:
            needs[name] = tuple(sorted(wanted))
    return needs

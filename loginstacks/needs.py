"""Visits in which modules need the tokens of others (point 17)."""

from loginstacks.answers import answers_with
from loginstacks.errors import InvalidNeeds
from loginstacks.runs import check_answers
from loginstacks.services import end_of_visit


class NeedyTeller:
    """Modules that tell their answers in one visit if they have got what they need, or else "skip"."""

    def __init__(self, answers, needs):
        self.answers = answers
        self.needs = needs
        self.tokens = {}
        # For the modules that told "skip" although their answer is another one: what they lacked, each time.
        self.held = {}

    def tell(self, module):
        """What a module tells that is asked now."""
        result = self.answers[module]
        lacked = [needed for needed in self.needs.get(module, ()) if needed not in self.tokens]
        if len(lacked) > 0:
            if result != "skip":
                self.held.setdefault(module, []).append(lacked)
            return "skip"
        if result == "yes":
            self.tokens[module] = True
        return result


def visit_with(service, needs, answers):
    """How a visit with needs ends, "opened" or "refused", and at which phase."""
    check_needs(service, needs)
    check_answers(service.modules, answers)
    return end_of_visit(service, NeedyTeller(answers, needs))


def held_back(service, needs, answers):
    """The ascending list of the modules that told "skip" although their answer is another one."""
    check_needs(service, needs)
    check_answers(service.modules, answers)
    teller = NeedyTeller(answers, needs)
    end_of_visit(service, teller)
    return sorted(teller.held)


def idle_needs(service, needs):
    """The ascending list of all pairs (module, needed one) without each of which alone all visits end alike."""
    check_needs(service, needs)
    visits = []
    for answers in answers_with(service.modules, {}):
        teller = NeedyTeller(answers, needs)
        end = end_of_visit(service, teller)
        visits.append((answers, end, teller.held))
    pairs = [(module, needed) for module in sorted(needs) for needed in needs[module]]
    return [(module, needed) for module, needed in pairs if is_idle(service, needs, module, needed, visits)]


def check_needs(service, needs):
    """Raises InvalidNeeds unless these are needs of some modules of a service."""
    for name in sorted(needs):
        if name not in service.modules or not can_need(service, name, needs[name]):
            raise InvalidNeeds(name)


def can_need(service, name, value):
    """Whether a value of any kind is an ascending tuple of other modules than this one, and not empty."""
    if not isinstance(value, tuple) or len(value) == 0:
        return False
    return value == tuple([module for module in service.modules if module in value and module != name])


def is_idle(service, needs, module, needed, visits):
    """Whether all visits end alike without one need of a module."""
    lesser = {**needs, module: tuple([other for other in needs[module] if other != needed])}
    for answers, end, held in visits:
        # Unless this need alone once held the module back, all modules tell the same without it.
        if [needed] in held.get(module, []) and end_of_visit(service, NeedyTeller(answers, lesser)) != end:
            return False
    return True

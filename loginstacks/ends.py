"""How often visits end in which way, and what it costs to see to that (point 18)."""

from loginstacks.checks import is_number, least_wrong_name
from loginstacks.errors import InvalidCosts
from loginstacks.harm import is_bar, is_key, modules_with_yes
from loginstacks.services import PHASES, ends_of_answers
from loginstacks.subsets import all_subsets

MOST_COST = 1000


def ends(service):
    """The list of tuples (result, phase, number): with how many answers a visit ends so."""
    found = [end for _, end in ends_of_answers(service)]
    kinds = [("refused", phase) for phase in PHASES] + [("opened", PHASES[-1])]
    return [(result, phase, found.count((result, phase))) for result, phase in kinds if (result, phase) in found]


def first_with(service, result, phase):
    """The first answers with which a visit ends so, or None."""
    for answers, end in ends_of_answers(service):
        if end == (result, phase):
            return answers
    return None


def cheapest_key(service, costs):
    """The least cost, and the modules, of a set that opens a visit if they all tell "yes", or None."""
    check_costs(service, costs)
    return cheapest_of(service, costs, "refused", is_key)


def cheapest_bar(service, costs):
    """The least cost, and the modules, of a set that refuses a visit if none of them tells "yes", or None."""
    check_costs(service, costs)
    return cheapest_of(service, costs, "opened", is_bar)


def is_cost(value):
    """Whether a value of any kind is a cost."""
    return is_number(value, 0, MOST_COST)


def check_costs(service, costs):
    """Raises InvalidCosts unless these are the costs of all modules of a service."""
    name = least_wrong_name(service.modules, costs, is_cost)
    if name is not None:
        raise InvalidCosts(name)


def cheapest_of(service, costs, result, is_one):
    """The cheapest set of modules that is a key, or a bar, beside all answers with this result; with its cost."""
    led = {modules_with_yes(answers): True for answers, end in ends_of_answers(service) if end[0] == result}
    cheapest = None
    # Of several sets that cost the same, the one that is wanted comes first.
    for chosen in all_subsets(service.modules):
        cost = sum([costs[module] for module in chosen])
        if is_one(chosen, led) and (cheapest is None or cost < cheapest[0]):
            cheapest = (cost, chosen)
    return cheapest

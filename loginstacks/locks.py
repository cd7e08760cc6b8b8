"""Locks, which stop clients who are refused too often (points 19 and 20)."""

from loginstacks.checks import is_number, least_wrong_name
from loginstacks.errors import InvalidEvent, InvalidLock, InvalidNumber
from loginstacks.rules import is_result, is_word
from loginstacks.runs import Teller
from loginstacks.services import end_of_visit

MOST_TRIES = 9
MOST_FIRST_PAUSE = 1000
MOST_GROWTH = 9
LONGEST_PAUSE = 1_000_000_000
LAST_TIME = 1_000_000_000_000
LAST_END = 1_000_000_000_000_000
MOST_COUNT = 1_000_000_000


class Lock:
    """A lock: how many refusals lock a client, for how long, and how much longer the next time."""

    def __init__(self, tries, pause, growth):
        if not is_number(tries, 1, MOST_TRIES):
            raise InvalidLock("tries")
        if not is_number(pause, 1, MOST_FIRST_PAUSE):
            raise InvalidLock("pause")
        if not is_number(growth, 1, MOST_GROWTH):
            raise InvalidLock("growth")
        self._tries = tries
        self._pause = pause
        self._growth = growth

    @property
    def tries(self):
        """How many refusals lock a client."""
        return self._tries

    @property
    def pause(self):
        """For how long a client is locked the first time."""
        return self._pause

    @property
    def growth(self):
        """How many times as long a client is locked the next time."""
        return self._growth

    def __eq__(self, other):
        if not isinstance(other, Lock):
            return False
        return self._tries == other._tries and self._pause == other._pause and self._growth == other._growth


class Client:
    """A client beside a lock."""

    def __init__(self, lock):
        self.refusals = 0
        self.next_pause = lock.pause
        # The time from which on the client is locked no more.
        self.free_from = 0

    def be_refused(self, lock, time):
        """Counts a refusal, and locks the client if there are enough."""
        self.refusals += 1
        if self.refusals == lock.tries:
            self.free_from = time + self.next_pause
            self.refusals = 0
            self.next_pause = longer_pause(lock, self.next_pause)

    def be_let_in(self, lock):
        """Forgets the refusals."""
        self.refusals = 0
        self.next_pause = lock.pause


class Watch:
    """What a lock does while one event after another happens."""

    def __init__(self, service, lock):
        self.service = service
        self.lock = lock
        self.clients = {}

    def happen(self, time, name, answers):
        """Makes the visit of an event unless its client is locked, and returns the result."""
        client = self.clients.setdefault(name, Client(self.lock))
        if time < client.free_from:
            return "locked"
        result, _ = end_of_visit(self.service, Teller(answers))
        if result == "refused":
            client.be_refused(self.lock, time)
        else:
            client.be_let_in(self.lock)
        return result


def longer_pause(lock, pause):
    """The pause behind this one."""
    return min(pause * lock.growth, LONGEST_PAUSE)


def is_event(service, event, earliest):
    """Whether an event can happen at a service at the earliest time or later."""
    if not isinstance(event, tuple) or len(event) != 3:
        return False
    time, name, answers = event
    if not is_number(time, earliest, LAST_TIME) or not is_word(name):
        return False
    return isinstance(answers, dict) and least_wrong_name(service.modules, answers, is_result) is None


def check_events(service, events):
    """Raises InvalidEvent unless all of these can happen at a service, one behind another."""
    earliest = 0
    for index, event in enumerate(events):
        if not is_event(service, event, earliest):
            raise InvalidEvent(index)
        earliest = event[0]


def locked_visits(service, lock, events):
    """The list of the results of all events: "opened", "refused" or "locked"."""
    check_events(service, events)
    watch = Watch(service, lock)
    return [watch.happen(time, name, answers) for time, name, answers in events]


def locked_until(service, lock, events):
    """A dict from all clients that are locked at the time of the last event to when they are locked no more."""
    check_events(service, events)
    watch = Watch(service, lock)
    now = 0
    for time, name, answers in events:
        watch.happen(time, name, answers)
        now = time
    until = {name: watch.clients[name].free_from for name in sorted(watch.clients)}
    return {name: until[name] for name in until if now < until[name]}


def most_refusals(lock, end):
    """How many refused visits one client can have at times from 0 to an end."""
    if not is_number(end, 0, LAST_END):
        raise InvalidNumber("the end is out of range")
    rounds, time, pause = 0, 0, lock.pause
    while time <= end and longer_pause(lock, pause) != pause:
        rounds += 1
        time += pause
        pause = longer_pause(lock, pause)
    # The pause does not change any more, so all further rounds can be counted at once.
    if time <= end:
        rounds += (end - time) // pause + 1
    return rounds * lock.tries


def least_time(lock, count):
    """The least time at which one client can have had so many refused visits."""
    if not is_number(count, 1, MOST_COUNT):
        raise InvalidNumber("the count is out of range")
    pauses, time, pause = (count - 1) // lock.tries, 0, lock.pause
    while pauses > 0 and longer_pause(lock, pause) != pause:
        pauses -= 1
        time += pause
        pause = longer_pause(lock, pause)
    # The pause does not change any more, so all further ones can be added at once.
    return time + pauses * pause

"""Points 19 and 20: locks."""

import random
import unittest

from loginstacks.errors import InvalidEvent, InvalidLock, InvalidNumber
from loginstacks.locks import Lock, least_time, locked_until, locked_visits, most_refusals
from loginstacks.rules import Rule
from loginstacks.services import Service
from loginstacks.stacks import Stack
from tests import plain_visits
from tests.support import Case

PIN = Stack(Rule("pin", "required"))
SERVICE = Service(PIN, PIN, Stack(), Stack())
RIGHT, WRONG = {"pin": "yes"}, {"pin": "no"}
LAST = 10 ** 12
NO_NUMBERS = (True, False, None, "1", "", (1,), [1])


def refusals(*times, name="ann"):
    return [(time, name, WRONG) for time in times]


def plain_watch(service, lock, events):
    """The results of events, and until when each client is locked."""
    count, pause, until, found = {}, {}, {}, []
    for time, name, answers in events:
        if name in until and time < until[name]:
            found.append("locked")
            continue
        result = plain_visits.end(service, answers)[0]
        found.append(result)
        if result == "opened":
            count[name], pause[name] = 0, lock.pause
            continue
        count[name] = count.get(name, 0) + 1
        if count[name] == lock.tries:
            length = pause.get(name, lock.pause)
            until[name], count[name] = time + length, 0
            pause[name] = min(10 ** 9, length * lock.growth)
    return found, until


def plain_refusals(lock, end):
    """The times of all refused visits up to an end of one client who tries as often as the lock allows."""
    times, time, pause = [], 0, lock.pause
    while time <= end:
        times += [time] * lock.tries
        time, pause = time + pause, min(10 ** 9, pause * lock.growth)
    return times


class LockTest(Case):
    def test_properties(self):
        lock = Lock(2, 10, 3)
        self.same((lock.tries, lock.pause, lock.growth), (2, 10, 3))
        lock = Lock(growth=9, pause=1000, tries=1)
        self.same((lock.tries, lock.pause, lock.growth), (1, 1000, 9))
        for name in ("tries", "pause", "growth"):
            with self.assertRaises(AttributeError):
                setattr(lock, name, 1)

    def test_bounds(self):
        for numbers in ((1, 1, 1), (9, 1000, 9)):
            lock = Lock(*numbers)
            self.same((lock.tries, lock.pause, lock.growth), numbers)
        for part, place, wrong in (("tries", 0, (0, 10, -1)), ("pause", 1, (0, 1001, -1)), ("growth", 2, (0, 10, -1))):
            for one in wrong + NO_NUMBERS:
                numbers = [2, 10, 3]
                numbers[place] = one
                self.fails(InvalidLock, Lock, *numbers, part=part)

    def test_the_first_part_counts(self):
        self.fails(InvalidLock, Lock, 3, 0, 10, part="pause")
        self.fails(InvalidLock, Lock, 0, 0, 0, part="tries")
        self.fails(InvalidLock, Lock, 10, 5, 0, part="tries")
        self.fails(InvalidLock, Lock, 9, 1001, 0, part="pause")

    def test_equality(self):
        self.assertTrue(Lock(2, 10, 3) == Lock(2, 10, 3))
        self.assertFalse(Lock(2, 10, 3) != Lock(2, 10, 3))
        for other in (Lock(3, 10, 3), Lock(2, 11, 3), Lock(2, 10, 2), Lock(3, 10, 2)):
            self.assertFalse(Lock(2, 10, 3) == other)
            self.assertTrue(Lock(2, 10, 3) != other)
        for other in (None, 0, "", (2, 10, 3), [2, 10, 3]):
            self.assertFalse(Lock(2, 10, 3) == other)
            self.assertFalse(other == Lock(2, 10, 3))


class VisitsTest(Case):
    def check(self, lock, events, results, until):
        self.same((locked_visits(SERVICE, lock, events), locked_until(SERVICE, lock, events)), (results.split(), until))

    def test_example(self):
        events = [(0, "ann", WRONG), (0, "ann", WRONG), (5, "ann", RIGHT), (10, "ann", WRONG), (11, "bo", RIGHT),
                  (12, "ann", WRONG)]
        lock = Lock(2, 10, 3)
        self.same([locked_visits(SERVICE, lock, events), locked_until(SERVICE, lock, events), most_refusals(lock, 45),
                   least_time(lock, 7)],
                  [["refused", "refused", "locked", "refused", "opened", "refused"], {"ann": 42}, 6, 130])
        self.fails(InvalidLock, Lock, 3, 0, 10, part="pause")

    def test_no_events(self):
        self.check(Lock(1, 1, 1), [], "", {})

    def test_count(self):
        for tries in range(1, 10):
            lock = Lock(tries, 100, 2)
            self.check(lock, refusals(*range(tries - 1)), " ".join(["refused"] * (tries - 1)), {})
            self.check(lock, refusals(*range(tries + 1)), " ".join(["refused"] * tries + ["locked"]),
                       {"ann": tries - 1 + 100})

    def test_the_very_time_at_which_a_client_is_locked_no_more(self):
        lock = Lock(1, 10, 1)
        self.check(lock, refusals(5, 5, 14), "refused locked locked", {"ann": 15})
        self.check(lock, refusals(5, 15), "refused refused", {"ann": 25})
        self.check(lock, refusals(5) + [(15, "ann", RIGHT)], "refused opened", {})
        self.check(lock, refusals(5) + [(14, "bo", RIGHT)], "refused opened", {"ann": 15})
        self.check(lock, refusals(5) + [(15, "bo", RIGHT)], "refused opened", {})

    def test_a_locked_visit_changes_nothing(self):
        lock = Lock(2, 10, 3)
        self.check(lock, refusals(0, 0, 1, 2, 9, 10, 10, 11),
                   "refused refused locked locked locked refused refused locked", {"ann": 40})
        # An answer that would open the visit of a locked client does not make it forget.
        self.check(lock, refusals(0, 0) + [(9, "ann", RIGHT)] + refusals(10, 10),
                   "refused refused locked refused refused", {"ann": 40})

    def test_the_count_is_0_behind_a_lock(self):
        self.check(Lock(3, 10, 1), refusals(0, 0, 0, 10, 10), " ".join(["refused"] * 5), {})

    def test_growing_pauses(self):
        self.check(Lock(1, 7, 2), refusals(0, 6, 7, 20, 21, 48, 49),
                   "refused locked refused locked refused locked refused", {"ann": 49 + 56})
        self.check(Lock(1, 7, 1), refusals(0, 7, 14, 21, 27), "refused refused refused refused locked", {"ann": 28})

    def test_the_longest_pause(self):
        lock = Lock(1, 1000, 9)
        times, pauses = [0], [1000 * 9 ** number for number in range(7)] + [10 ** 9] * 3
        for pause in pauses:
            times.append(times[-1] + pause)
        self.check(lock, refusals(*times), " ".join(["refused"] * 11), {"ann": times[-1] + 10 ** 9})
        early = [time for pair in zip(times, [time - 1 for time in times[1:]]) for time in pair]
        self.check(lock, refusals(*early), " ".join(["refused locked"] * 10), {"ann": times[-1]})

    def test_an_opened_visit_forgets(self):
        lock = Lock(2, 10, 3)
        self.check(lock, refusals(0) + [(0, "ann", RIGHT)] + refusals(0), "refused opened refused", {})
        self.check(lock, refusals(0, 0) + [(10, "ann", RIGHT)] + refusals(10, 10, 19),
                   "refused refused opened refused refused locked", {"ann": 20})
        self.check(lock, [(0, "ann", RIGHT)] + refusals(0, 0), "opened refused refused", {"ann": 10})

    def test_clients_do_not_touch_one_another(self):
        lock = Lock(2, 10, 3)
        events = refusals(0, name="bo") + refusals(0) + [(1, "cy", RIGHT)] + refusals(2, 3, name="bo")
        self.check(lock, events, "refused refused opened refused locked", {"bo": 12})
        self.check(lock, events + refusals(4), "refused refused opened refused locked refused", {"ann": 14, "bo": 12})
        self.check(lock, events + refusals(12), "refused refused opened refused locked refused", {"ann": 22})

    def test_locked_until_in_ascending_order(self):
        events = refusals(0, name="cy") + refusals(0, name="b") + refusals(0, name="ab") + refusals(0, name="abc")
        self.same(locked_until(SERVICE, Lock(1, 5, 5), events), {"ab": 5, "abc": 5, "b": 5, "cy": 5})

    def test_several_events_at_one_time(self):
        events = refusals(3, 3) + refusals(3, name="bo") + [(3, "ann", RIGHT), (3, "bo", RIGHT)] + refusals(3)
        self.check(Lock(2, 1, 1), events, "refused refused refused locked opened locked", {"ann": 4})

    def test_answers_of_the_whole_service_count(self):
        service = Service(PIN, Stack(Rule("due", "required")), Stack(), Stack())
        events = [(0, "ann", {"pin": "yes", "due": "no"}), (1, "ann", {"pin": "yes", "due": "yes"}),
                  (2, "ann", {"pin": "yes", "due": "yes"})]
        self.same(locked_visits(service, Lock(1, 2, 1), events), ["refused", "locked", "opened"])
        self.same(locked_visits(Service(*[Stack()] * 4), Lock(1, 2, 1), [(0, "ann", {})]), ["refused"])

    def test_beside_a_plain_watch(self):
        rng = random.Random(19)
        for service in plain_visits.random_services(rng, "ab", 30, 2):
            for _ in range(10):
                lock = Lock(rng.randint(1, 3), rng.randint(1, 6), rng.randint(1, 3))
                events = self.random_events(rng, service)
                results, until = plain_watch(service, lock, events)
                last = events[-1][0] if events else 0
                self.same(locked_visits(service, lock, events), results)
                self.same(locked_until(service, lock, events),
                          {name: until[name] for name in sorted(until) if until[name] > last})

    def random_events(self, rng, service):
        events, time = [], rng.randint(0, 3)
        for _ in range(rng.randint(0, 30)):
            time += rng.choice((0, 0, 1, 1, 2, 5))
            answers = {name: rng.choice(("yes", "no", "skip", "gone")) for name in service.modules}
            events.append((time, rng.choice(("cy", "ann", "bo")), answers))
        return events


class EventsTest(Case):
    def check(self, events, index):
        for call in (locked_visits, locked_until):
            self.fails(InvalidEvent, call, SERVICE, Lock(1, 1000, 1), events, index=index)

    def test_times(self):
        for wrong in (-1, LAST + 1) + NO_NUMBERS:
            self.check([(wrong, "ann", WRONG)], 0)
            self.check(refusals(0, 0) + [(wrong, "ann", WRONG)], 2)
        self.check(refusals(5, 4), 1)
        self.check(refusals(0, 5, 5, 6) + refusals(5, name="bo"), 4)
        self.check(refusals(LAST, LAST - 1), 1)
        self.same(locked_visits(SERVICE, Lock(1, 1, 1), refusals(0, 0, LAST, LAST)), ["refused", "locked"] * 2)
        self.same(locked_until(SERVICE, Lock(1, 7, 1), refusals(LAST)), {"ann": LAST + 7})

    def test_clients(self):
        for wrong in ("", "Ann", "ann1", "a b", "abcdefghi", None, 0, True, ("ann",), b"ann"):
            self.check([(0, wrong, WRONG)], 0)
            self.check(refusals(0, 1) + [(1, wrong, WRONG)] + refusals(2), 2)
        events = [(0, "a", WRONG), (0, "abcdefgh", RIGHT)]
        self.same(locked_visits(SERVICE, Lock(9, 1, 1), events), ["refused", "opened"])

    def test_answers(self):
        for wrong in ({}, {"key": "yes"}, {"pin": "yes", "key": "yes"}, {"pin": "ok"}, {"pin": None}, {"pin": True},
                      None, "yes", ("pin",), ["pin"]):
            self.check([(0, "ann", wrong)], 0)
            # Even the answers of a client who is locked have to be right.
            self.check(refusals(0) + [(1, "ann", wrong)], 1)
        self.fails(InvalidEvent, locked_visits, Service(*[Stack()] * 4), Lock(1, 1, 1), [(0, "ann", WRONG)], index=0)

    def test_what_is_no_event(self):
        for wrong in ((), (0,), (0, "ann"), (0, "ann", WRONG, 0), None, "ann", [0, "ann", WRONG]):
            self.check([wrong], 0)

    def test_the_first_one_counts(self):
        self.check([(0, "ann", WRONG), (5, "ann", {}), (4, "ann", WRONG), (6, "", WRONG)], 1)
        self.check([(0, "ann", WRONG), (5, "", RIGHT), (4, "ann", {}), (6, "", WRONG)], 1)
        self.check([(1, "ann", WRONG), (0, "ann", RIGHT), (4, "ann", {}), (6, "", WRONG)], 1)
        self.check([(1, "", {}), (0, "ann", RIGHT)], 0)


class NumbersTest(Case):
    def test_small_numbers_beside_a_plain_count(self):
        for tries in (1, 2, 3, 9):
            for pause in (1, 2, 7, 50):
                for growth in (1, 2, 3, 9):
                    lock = Lock(tries, pause, growth)
                    for end in range(120):
                        self.same(most_refusals(lock, end), len(plain_refusals(lock, end)))
                    times = plain_refusals(lock, 400)
                    for count in range(1, min(len(times), 100) + 1):
                        self.same(least_time(lock, count), times[count - 1])

    def test_each_against_the_other(self):
        rng = random.Random(20)
        for _ in range(400):
            lock = Lock(rng.randint(1, 9), rng.choice((1, 2, 999, 1000, rng.randint(1, 1000))), rng.randint(1, 9))
            count = rng.choice((1, 2, 10, 300, 10 ** 6, 10 ** 9, rng.randint(1, 10 ** 9)))
            time = least_time(lock, count)
            if time <= 10 ** 15:
                self.assertGreaterEqual(most_refusals(lock, time), count)
            if 0 < time <= 10 ** 15:
                self.assertLess(most_refusals(lock, time - 1), count)
            end = rng.choice((0, 1, 10 ** 6, 10 ** 10, rng.randint(0, 10 ** 15)))
            most = most_refusals(lock, end)
            self.assertGreater(most, 0)
            if most < 10 ** 9:
                self.assertLessEqual(least_time(lock, most), end)
                self.assertGreater(least_time(lock, most + 1), end)

    def test_bounds(self):
        for lock in (Lock(1, 1, 1), Lock(9, 1000, 9), Lock(4, 3, 2)):
            self.same((most_refusals(lock, 0), least_time(lock, 1)), (lock.tries, 0))
            self.same(least_time(lock, lock.tries), 0)
            self.same(least_time(lock, lock.tries + 1), lock.pause)
            for wrong in (-1, 10 ** 15 + 1) + NO_NUMBERS:
                self.fails(InvalidNumber, most_refusals, lock, wrong)
            for wrong in (0, -1, 10 ** 9 + 1) + NO_NUMBERS:
                self.fails(InvalidNumber, least_time, lock, wrong)

    def test_the_greatest_numbers(self):
        self.same(most_refusals(Lock(1, 1, 1), 10 ** 15), 10 ** 15 + 1)
        self.same(most_refusals(Lock(9, 1000, 1), 10 ** 15), 9 * (10 ** 12 + 1))
        self.same(least_time(Lock(1, 1, 1), 10 ** 9), 10 ** 9 - 1)
        self.same(least_time(Lock(9, 1000, 1), 10 ** 9), 1000 * ((10 ** 9 - 1) // 9))
        for numbers in ((1, 1, 2), (9, 1000, 9), (2, 999, 3), (1, 512, 5)):
            self.check_slowly(Lock(*numbers))

    def check_slowly(self, lock):
        """Beside a plain sum of all pauses up to the greatest numbers that pauses of 10 ** 9 allow."""
        rounds, time, pause = 0, 0, lock.pause
        while time <= 10 ** 15:
            rounds, time, pause = rounds + 1, time + pause, min(10 ** 9, pause * lock.growth)
        self.same(most_refusals(lock, 10 ** 15), rounds * lock.tries)
        # From here on each pause is the longest one.
        further = (10 ** 9 - 1) // lock.tries - rounds
        self.same(least_time(lock, 10 ** 9), time + further * 10 ** 9)
        self.same(least_time(lock, rounds * lock.tries + 1), time)

    def test_the_longest_pause(self):
        lock = Lock(1, 1000, 9)
        start = sum(1000 * 9 ** number for number in range(7))
        self.same([least_time(lock, count) for count in (7, 8, 9, 10)],
                  [start - 1000 * 9 ** 6, start, start + 10 ** 9, start + 2 * 10 ** 9])
        self.same([most_refusals(lock, start + end) for end in (-1, 0, 10 ** 9 - 1, 10 ** 9)], [7, 8, 8, 9])

    def test_as_the_events_have_it(self):
        rng = random.Random(201)
        for _ in range(40):
            lock = Lock(rng.randint(1, 3), rng.randint(1, 5), rng.randint(1, 4))
            events = refusals(*[time for time in range(30) for _ in range(lock.tries)])
            results = locked_visits(SERVICE, lock, events)
            self.same(most_refusals(lock, 29), results.count("refused"))
            times = [event[0] for event, result in zip(events, results) if result == "refused"]
            self.same([least_time(lock, count + 1) for count in range(len(times))], times)


if __name__ == "__main__":
    unittest.main()

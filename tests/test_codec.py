"""Point 29: codes of stacks."""

import random
import unittest

from loginstacks.codec import decode_stack, encode_stack
from loginstacks.errors import DecodeError, InvalidStack
from loginstacks.rules import Rule
from loginstacks.stacks import Stack
from tests import plain
from tests.support import Case, MODULES

PIN = Rule("pin", "required")
# The code of `PIN` behind the 1 that stands ahead of a rule.
PIN_CODE = [3, 16, 9, 14, 0]
SEVEN_MODULES = [item for number in range(1, 8) for item in (1, 1, number, 0)]
NO_ITEMS = (-1, 256, 1000, None, True, False, "1", "", (1,), [1], b"a")


def plain_sum(items):
    total = 5
    for item in items:
        total = (9 * total + item) % 251
    return total


def closed(items):
    """The items with 83 ahead of them and their checksum behind."""
    items = [83] + list(items)
    return items + [plain_sum(items)]


def plain_items(stack):
    """The items of a stack, told a second time."""
    items = [len(stack.entries)]
    for entry in stack.entries:
        if isinstance(entry, Stack):
            items += [0] + plain_items(entry)
            continue
        items += [1, len(entry.module)] + [ord(letter) - 96 for letter in entry.module]
        kinds = [at for at, kind in enumerate(("required", "requisite", "sufficient", "optional"))
                 if plain.KINDS[kind] == entry.control]
        items += kinds or [4] + [plain.WORDS.index(one) if one in plain.WORDS else 5 + one for one in entry.control]
    return items


class CodecCase(Case):
    def there_and_back(self, stack, items):
        self.same(encode_stack(stack), closed(items))
        self.assertEqual(decode_stack(closed(items)), stack)

    def wrong(self, items, offset):
        """Checks at which offset a list is wrong, and that nothing behind it counts."""
        self.fails(DecodeError, decode_stack, items, offset=offset)
        for further in ([0], [256], [None, 1], [0] * 20):
            self.fails(DecodeError, decode_stack, items[:offset + 1] + further, offset=offset)

    def wrong_at(self, code, offset, values):
        """Checks that none of these values can stand at an offset of a right code, whose checksum is told anew."""
        for value in values:
            items = code[:offset] + [value] + code[offset + 1:-1]
            numbers = [item if isinstance(item, int) else 0 for item in items]
            self.wrong(items + [plain_sum(numbers)], offset)


class ExamplesTest(CodecCase):
    def test_example(self):
        self.same([encode_stack(Stack(Rule("a", "required"))), decode_stack([83, 1, 1, 1, 1, 0, 10]).modules],
                  [[83, 1, 1, 1, 1, 0, 10], ("a",)])

    def test_example_error(self):
        self.fails(DecodeError, decode_stack, [83, 1, 2], offset=2)


class ThereAndBackTest(CodecCase):
    def test_no_entries(self):
        self.there_and_back(Stack(), [0])

    def test_inner_stacks(self):
        self.there_and_back(Stack(Stack()), [1, 0, 0])
        self.there_and_back(Stack(Stack(Stack(), Stack()), PIN), [2, 0, 2, 0, 0, 0, 0, 1] + PIN_CODE)
        self.there_and_back(Stack(PIN, Stack(PIN), Stack()), [3, 1, *PIN_CODE, 0, 1, 1, *PIN_CODE, 0, 0])

    def test_letters(self):
        self.there_and_back(Stack(Rule("z", "required")), [1, 1, 1, 26, 0])
        self.there_and_back(Stack(Rule("abcdefgh", "required")), [1, 1, 8, 1, 2, 3, 4, 5, 6, 7, 8, 0])

    def test_kinds(self):
        for number, kind in enumerate(("required", "requisite", "sufficient", "optional")):
            self.there_and_back(Stack(Rule("a", kind)), [1, 1, 1, 1, number])
            self.same(encode_stack(Stack(Rule("a", plain.KINDS[kind]))), closed([1, 1, 1, 1, number]))

    def test_actions(self):
        self.there_and_back(Stack(Rule("a", ("ok", "bad", "die", "done"))), [1, 1, 1, 1, 4, 0, 1, 2, 3])
        self.there_and_back(Stack(Rule("a", ("ignore", "reset", 1, 2))), [1, 1, 1, 1, 4, 4, 5, 6, 7])
        self.there_and_back(Stack(Rule("a", (9, 8, "ok", "ok"))), [1, 1, 1, 1, 4, 14, 13, 0, 0])

    def test_the_largest_stacks(self):
        self.there_and_back(Stack(*[PIN] * 12), [12] + [1, *PIN_CODE] * 12)
        self.there_and_back(Stack(*[Stack()] * 12), [12] + [0, 0] * 12)

    def test_beside_a_second_telling(self):
        rng = random.Random(29)
        for _ in range(200):
            stack = plain.random_stack(rng, MODULES[:5], 10)
            self.there_and_back(stack, plain_items(stack))
            for item in encode_stack(stack):
                self.assertIs(type(item), int)
                self.assertIn(item, range(256))


class WrongItemsTest(CodecCase):
    CODE = closed([2, 1, *PIN_CODE, 0, 1, 1, 1, 26, 4, 0, 1, 14, 5])

    def test_the_code_is_right(self):
        self.assertEqual(decode_stack(self.CODE), Stack(PIN, Stack(Rule("z", ("ok", "bad", 9, "reset")))))

    def test_no_items_from_0_to_255(self):
        for offset in range(len(self.CODE)):
            self.wrong_at(self.CODE + [0], offset, NO_ITEMS)

    def test_the_bounds(self):
        for offset, bounds in ((0, (0, 82, 84, 255)), (1, (13, 14, 255)), (2, (2, 3, 255)), (3, (0, 9, 255)),
                               (4, (0, 27, 255)), (6, (0, 27, 255)), (7, (5, 6, 255)), (8, (2, 255)), (9, (13, 255)),
                               (10, (2, 83)), (11, (0, 9)), (12, (0, 27)), (13, (5, 255)), (14, (15, 16, 255)),
                               (15, (15, 255)), (16, (15, 255)), (17, (15, 255))):
            self.wrong_at(self.CODE, offset, bounds)

    def test_actions_that_have_a_kind(self):
        for kind in ("required", "requisite", "sufficient", "optional"):
            actions = [plain.WORDS.index(word) for word in plain.KINDS[kind]]
            self.wrong(closed([1, 1, 1, 1, 4] + actions), 9)
            self.wrong(closed([2, 1, 1, 1, 4, *actions, 1, 1, 27]), 9)
            # Any other action in its place is right.
            other = actions[:3] + [14]
            self.same(encode_stack(decode_stack(closed([1, 1, 1, 1, 4] + other))), closed([1, 1, 1, 1, 4] + other))

    def test_a_wrong_checksum(self):
        for code in (self.CODE, closed([0]), closed([1, 0, 0])):
            for value in set(range(256)) - {code[-1]}:
                self.fails(DecodeError, decode_stack, code[:-1] + [value], offset=len(code) - 1)
                if value % 50 == 0:
                    self.wrong(code[:-1] + [value, 0], len(code) - 1)
            for value in NO_ITEMS:
                self.wrong(code[:-1] + [value], len(code) - 1)

    def test_an_item_behind_the_checksum(self):
        for code in (self.CODE, closed([0])):
            for further in ([0], [0, 0], [83], code, [None], [True], [256, 1]):
                self.fails(DecodeError, decode_stack, code + further, offset=len(code))

    def test_missing_items(self):
        for code in (self.CODE, closed([0]), closed([3, 1, *PIN_CODE, 0, 1, 1, *PIN_CODE, 0, 0])):
            for many in range(len(code)):
                self.fails(DecodeError, decode_stack, code[:many], offset=many)

    def test_the_empty_list(self):
        self.fails(DecodeError, decode_stack, [], offset=0)

    def test_booleans_that_are_equal_to_what_is_wanted(self):
        self.fails(DecodeError, decode_stack, [83, True, 1, 1, 1, 0, 10], offset=1)
        self.fails(DecodeError, decode_stack, [83, 1, 1, 1, 1, False, 10], offset=5)


class InvalidStackTest(CodecCase):
    def test_too_much(self):
        rule = [1, 1, 1, 0]
        self.fails(InvalidStack, decode_stack, closed([2, 0, 12] + rule * 13), index=1)
        self.fails(InvalidStack, decode_stack, closed([1, 0, 1, 0, 1, 0, 0]), index=0)
        self.fails(InvalidStack, decode_stack, closed([2, 1, 1, 1, 0, 0, 1, 0, 1, 0, 0]), index=1)
        self.fails(InvalidStack, decode_stack, closed([7] + SEVEN_MODULES), index=6)

    def test_an_inner_stack_ahead_of_the_one_around_it(self):
        inner = [0, 2, 0, 12] + [1, 1, 1, 0] * 13
        self.fails(InvalidStack, decode_stack, closed([8] + SEVEN_MODULES + inner), index=1)

    def test_a_wrong_item_ahead_of_it(self):
        code = closed([2, 0, 12] + [1, 1, 1, 0] * 13)
        self.wrong(code[:-1] + [(code[-1] + 1) % 251], len(code) - 1)
        self.wrong(code + [0], len(code))
        self.wrong(code[:-1], len(code) - 1)


class CallsTest(CodecCase):
    def test_arguments_and_what_is_returned(self):
        stack = Stack(PIN, Stack(PIN))
        code = encode_stack(stack)
        again = decode_stack(code)
        self.same(code, encode_stack(stack))
        code.clear()
        self.assertEqual(again, stack)
        self.same(encode_stack(stack), closed([2, 1, *PIN_CODE, 0, 1, 1, *PIN_CODE]))


if __name__ == "__main__":
    unittest.main()

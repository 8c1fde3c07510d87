"""[8] Which columns can be told apart, with what shows it."""

import itertools
import unittest

from layermap.classes import Classes, apart, classes
from layermap.errors import BadColumn, BadStack
from layermap.stacks import Stack
from reference import ALL_LAYERS, ALONE, CACHE, HIDING, IDLE, NO_STACKS, PLAIN, SHARED, SHUT, THROUGH, TOLD, WRONG_DEEDS
from reference import after, answers, chance, distance, sampled_stacks

HELD = (None, "hidden", 0, 1)


def all_columns(count):
    return list(itertools.product(HELD, repeat=count))


def partition(layers, deeds):
    """For each column those that no deeds tell from it: what is told apart is taken out until nothing changes."""
    some = all_columns(len(layers))
    moves = {(column, deed): after(layers, column, deed) for column in some for deed in deeds}
    same = {(one, other) for one in some for other in some}
    while True:
        fewer = {
            (one, other) for one, other in same
            if all(moves[one, deed][0] == moves[other, deed][0] and (moves[one, deed][1], moves[other, deed][1]) in same
                   for deed in deeds)
        }
        if fewer == same:
            return {one: {other for other in some if (one, other) in same} for one in some}
        same = fewer


class FoundTest(unittest.TestCase):
    """What is returned, against deeds done by tests/reference.py."""

    def check(self, layers, contents, shared):
        stack, deeds, told = Stack(layers, contents), SHARED if shared else ALONE, (layers, shared)
        found = classes(stack, shared=shared)
        self.assertIs(found.shows(stack, shared=shared), True, told)
        columns = [column for group in found.groups for column in group]
        self.assertEqual((len(columns), set(columns)), (4 ** len(layers), set(all_columns(len(layers)))), told)
        same = partition(layers, deeds)
        for group in found.groups:
            self.assertEqual(set(group), same[group[0]], told)
        pairs = list(itertools.combinations(range(len(found)), 2))
        self.assertEqual(sorted(found.tests), pairs, told)
        for (low, high), test in found.tests.items():
            firsts = found.groups[low][0], found.groups[high][0]
            self.assertIs(type(test), tuple)
            self.assertNotEqual(*[answers(layers, column, test)[-1] for column in firsts], told)
            self.assertTrue(shared or "beneath" not in [deed[0] for deed in test])
        return len(found)

    def test_all_stacks_of_one_layer(self):
        for layer in ALL_LAYERS:
            for shared in (True, False):
                self.check((layer,), ({},), shared)

    def test_stacks_of_two_layers(self):
        numbers = chance(30)
        seen = {
            self.check((numbers.choice(ALL_LAYERS), numbers.choice(ALL_LAYERS)), ({}, {}), shared)
            for _ in range(150) for shared in (True, False)
        }
        self.assertGreater(len(seen), 6)

    def test_stacks_of_three_layers(self):
        for layers, contents in sampled_stacks(31, 60):
            if len(layers) == 3:
                for shared in (True, False):
                    self.check(layers, contents, shared)

    def test_numbers_of_groups(self):
        for layers in ((PLAIN,), (HIDING,), (TOLD,), (IDLE,), (SHUT,), (PLAIN, PLAIN), (THROUGH, PLAIN), (HIDING, CACHE)):
            found = [len(classes(Stack.of(*layers), shared=shared)) for shared in (True, False)]
            number = [len({frozenset(some) for some in partition(layers, deeds).values()}) for deeds in (SHARED, ALONE)]
            self.assertEqual(found, number, layers)
            if len(layers) == 1:
                self.assertEqual(found, [3, 3], layers)

    def test_groups_of_the_plain_stack(self):
        for shared in (True, False):
            found = classes(Stack.plain({}), shared=shared)
            groups = [set(group) for group in found.groups]
            self.assertEqual(len(groups), 3)
            for some in ({(None,), ("hidden",)}, {(0,)}, {(1,)}):
                self.assertIn(some, groups)

    def test_what_the_layers_have_does_not_matter(self):
        layers = (CACHE, TOLD)
        found = classes(Stack.of(*layers))
        held = Stack(layers, ({1: 5, 2: "hidden"}, {1: 1, 7: 8}))
        self.assertEqual(classes(held), found)
        self.assertIs(found.shows(held), True)

    def test_shared_matters(self):
        double = Stack.of(THROUGH, PLAIN)
        both, alone = classes(double), classes(double, shared=False)
        self.assertGreater(len(both), len(alone))
        self.assertEqual([both.shows(double), both.shows(double, shared=False)], [True, False])
        self.assertEqual([alone.shows(double), alone.shows(double, shared=False)], [False, True])
        self.assertIs(any(deed[0] == "beneath" for test in both.tests.values() for deed in test), True)

    def test_the_stack_is_not_changed(self):
        stack = Stack((CACHE, PLAIN), ({1: 2}, {3: 4}))
        twin = stack.twin()
        for shared in (True, False):
            self.assertTrue(classes(stack, shared=shared).shows(stack, shared=shared))
            apart(stack, (None, 3), (3, 3), shared=shared)
        self.assertEqual(stack, twin)

    def test_what_is_returned_is_new(self):
        stack = Stack.of(CACHE, PLAIN)
        found, again = classes(stack), classes(stack)
        self.assertEqual(found, again)
        found.groups[0].clear()
        found.tests.clear()
        self.assertNotEqual(found, again)
        self.assertTrue(classes(stack).shows(stack) and again.shows(stack))


class ShowsTest(unittest.TestCase):
    plain = Stack.plain({7: 7})
    groups = [[(None,), ("hidden",)], [(0,)], [(1,)]]
    right = {(0, 1): (("has",),), (0, 2): (("ask",),), (1, 2): (("ask",),)}

    def shown(self, groups=None, tests=None, shared=True):
        some = Classes(self.groups if groups is None else groups, self.right if tests is None else tests)
        return some.shows(self.plain, shared=shared)

    def test_right_groups_and_tests(self):
        for shared in (True, False):
            self.assertIs(self.shown(shared=shared), True)
            same, other = (("write", 8), ("forget",), ("ask",)), (("ask",), ("has",), ("forget",))
            self.assertIs(self.shown(tests={**self.right, (0, 2): same}, shared=shared), False)
            self.assertIs(self.shown(tests={**self.right, (0, 2): other}, shared=shared), True)

    def test_any_order_of_groups_columns_and_tests(self):
        for groups in itertools.permutations([self.groups[0][::-1], [(0,)], [(1,)]]):
            for some in itertools.permutations([((0, 1), (("ask",),)), ((0, 2), (("ask",),)), ((1, 2), (("ask",),))]):
                self.assertIs(self.shown(list(groups), dict(some)), True)

    def test_columns_left_out_twice_and_put_in(self):
        for wrong in (
            [[(None,)], [(0,)], [(1,)]], [[("hidden",)], [(0,)], [(1,)]],
            [[(None,), ("hidden",), (None,)], [(0,)], [(1,)]],
            [[(None,), ("hidden",)], [(0,), (0,)], [(1,)]], [[(None,), ("hidden",)], [(0,)], [(1,), (0,)]],
            [[(None,), ("hidden",)], [(0,)], [(1,), (2,)]], [[(None,), ("hidden",)], [(0,)], [(2,)]],
            [[(None,), ("hidden",)], [(0,)], [(1,), (None, None)]], [[(None,), ("hidden",)], [(0,)], [(1,), ()]],
            [[(None,), ("hidden",)], [(0,)], [(True,)]], [[(None,), ("hidden",), ("none",)], [(0,)], [(1,)]],
            [[(None,), ("hidden",), (1,)], [(0,)], [(1,)]], [[], [], []],
        ):
            self.assertIs(self.shown(wrong), False, wrong)

    def test_groups_that_are_put_together(self):
        pair = {(0, 1): (("ask",),)}
        for wrong in (
            [[(None,), ("hidden",)], [(0,), (1,)]], [[(None,), ("hidden",), (0,)], [(1,)]],
            [[(1,), (None,), ("hidden",)], [(0,)]],
        ):
            self.assertIs(self.shown(wrong, pair), False, wrong)
        self.assertIs(self.shown([[(None,), ("hidden",), (0,), (1,)]], {}), False)

    def test_groups_that_are_taken_apart(self):
        four = [[(None,)], [("hidden",)], [(0,)], [(1,)]]
        tests = {pair: (("ask",),) for pair in itertools.combinations(range(4), 2)}
        for test in ((("ask",),), (("has",),), (("write", 1), ("ask",)), (("forget",), ("beneath", 5), ("has",))):
            self.assertIs(self.shown(four, {**tests, (0, 1): test}), False)

    def test_columns_with_the_same_answers_that_are_told_apart_later(self):
        cached = Stack.of(CACHE, PLAIN)
        found = classes(cached)
        self.assertIs(found.shows(cached), True)
        for low, high in found.tests:
            groups = [group for at, group in enumerate(found.groups) if at not in (low, high)]
            groups = [found.groups[low] + found.groups[high]] + groups
            tests = {
                (one, other): parting(cached, groups[one][0], groups[other][0])
                for one, other in itertools.combinations(range(len(groups)), 2)
            }
            self.assertIs(Classes(groups, tests).shows(cached), False, (low, high))

    def test_empty_groups(self):
        for at in range(4):
            groups = self.groups[:at] + [[]] + self.groups[at:]
            self.assertIs(self.shown(groups), False)
            tests = {pair: (("ask",),) for pair in itertools.combinations(range(4), 2)}
            self.assertIs(self.shown(groups, tests), False)
        self.assertIs(self.shown([], {}), False)
        self.assertIs(self.shown([[]], {}), False)

    def test_tests_left_out_and_put_in(self):
        for left in self.right:
            some = {pair: test for pair, test in self.right.items() if pair != left}
            self.assertIs(self.shown(tests=some), False)
            self.assertIs(self.shown(tests={**some, left[::-1]: self.right[left]}), False)
        self.assertIs(self.shown(tests={}), False)
        for wrong in ((0, 3), (1, 0), (2, 1), (1, 1), (-1, 0), (0, -2), (5, 9)):
            self.assertIs(self.shown(tests={**self.right, wrong: (("ask",),)}), False, wrong)
        some = {pair: test for pair, test in self.right.items() if pair != (0, 1)}
        self.assertIs(self.shown(tests={**some, (False, True): (("ask",),)}), False)

    def test_deeds_that_tell_nothing_apart(self):
        for wrong in ((), (("has",),), (("write", 1),), (("ask",), ("write", 0), ("ask",)), (("forget",),)):
            self.assertIs(self.shown(tests={**self.right, (1, 2): wrong}), False, wrong)

    def test_deeds_with_other_values(self):
        double = Stack.of(CACHE, PLAIN)
        found = classes(double)
        pair = [pair for pair in found.tests
                if {(0, None), (0, 0)} == {found.groups[pair[0]][0], found.groups[pair[1]][0]}]
        self.assertEqual(len(pair), 1)
        for test, right in (
            ((("forget",), ("ask",)), True), ((("write", 10 ** 40), ("forget",), ("has",)), True),
            ((("forget",), ("write", -3), ("beneath", 8), ("ask",)), False), ((("write", 77), ("ask",)), False),
            ((("beneath", 8), ("ask",)), False), ((("forget",), ("beneath", 8), ("ask",)), False),
        ):
            self.assertIs(Classes(found.groups, {**found.tests, pair[0]: test}).shows(double), right, test)

    def test_tuples_that_are_no_deeds(self):
        for wrong in WRONG_DEEDS:
            for test in ((wrong,), (wrong, ("ask",)), (("ask",), wrong)):
                self.assertIs(self.shown(tests={**self.right, (0, 1): test}), False, wrong)
        self.assertIs(self.shown(tests={**self.right, (0, 1): [("ask",)]}), False)

    def test_beneath_where_shared_is_false(self):
        beneath = (("beneath", 3), ("ask",))
        told = Stack.of(CACHE, PLAIN)
        found = classes(told, shared=False)
        self.assertIs(found.shows(told, shared=False), True)
        parted = [pair for pair in found.tests if parts(told, *[found.groups[at][0] for at in pair], beneath)]
        self.assertGreater(len(parted), 0)
        for pair in parted:
            some = Classes(found.groups, {**found.tests, pair: beneath})
            self.assertIs(some.shows(told, shared=False), False)
        both = classes(told)
        for pair in both.tests:
            if parts(told, *[both.groups[at][0] for at in pair], beneath):
                self.assertIs(Classes(both.groups, {**both.tests, pair: beneath}).shows(told), True)

    def test_the_first_columns_count(self):
        groups = [[("hidden",), (None,)], [(0,)], [(1,)]]
        self.assertIs(self.shown(groups), True)
        told = Stack.of(TOLD)
        found = classes(told)
        self.assertEqual(len(found), 3)
        for groups in (found.groups, [group[::-1] for group in found.groups]):
            self.assertIs(Classes(groups, found.tests).shows(told), True)

    def test_of_another_stack(self):
        some = Classes(self.groups, self.right)
        for stack, right in (
            (Stack.of(HIDING), True), (Stack.of(IDLE), True), (Stack.of(TOLD), True), (Stack.of(PLAIN, PLAIN), False),
            (Stack.of(("here", "here", "look", ("made", 1))), False),
        ):
            self.assertIs(some.shows(stack), right, stack.layers)

    def test_the_current_attributes_count(self):
        some = Classes([], {})
        self.assertIs(some.shows(self.plain), False)
        some.groups = [list(group) for group in self.groups]
        some.tests = dict(self.right)
        self.assertIs(some.shows(self.plain), True)
        some.groups[0].pop()
        self.assertIs(some.shows(self.plain), False)


def parts(stack, one, other, deeds):
    """Whether two columns have different answers to the last one of deeds."""
    return answers(stack.layers, one, deeds)[-1] != answers(stack.layers, other, deeds)[-1]


def parting(stack, one, other):
    """The deeds that tell two columns apart, as few as possible."""
    for count in range(1, 5):
        for deeds in itertools.product(SHARED, repeat=count):
            if parts(stack, one, other, deeds):
                return deeds
    return (("ask",),)


class ApartTest(unittest.TestCase):
    def test_any_columns(self):
        numbers, seen = chance(32), {}
        held = [None, None, "hidden", 0, 1, 2, -7, 10 ** 40]
        wide = [("write", 2), ("write", -7)]
        for layers, contents in sampled_stacks(33, 500):
            stack = Stack(layers, contents)
            one = tuple(numbers.choice(held) for _ in layers)
            other = tuple(numbers.choice(held) if numbers.randrange(2) else some for some in one)
            for shared in (True, False):
                deeds = (SHARED + [("beneath", 2)] if shared else ALONE) + wide
                number = apart(stack, one, other, shared=shared)
                self.assertEqual(number, distance(layers, layers, [(one, other)], deeds), (layers, one, other, shared))
                self.assertEqual(apart(stack, other, one, shared=shared), number)
                seen[number] = seen.get(number, 0) + 1
        self.assertTrue(all(seen.get(number, 0) > 4 for number in (None, 1, 2, 3)), seen)

    def test_as_the_groups_say(self):
        for layers, contents in sampled_stacks(34, 25):
            stack = Stack(layers, contents)
            for shared in (True, False):
                found = classes(stack, shared=shared)
                for group in found.groups:
                    for column in group:
                        self.assertIsNone(apart(stack, group[0], column, shared=shared))
                for (low, high), test in found.tests.items():
                    number = apart(stack, found.groups[low][0], found.groups[high][-1], shared=shared)
                    self.assertTrue(1 <= number <= len(test), (layers, shared))

    def test_numbers(self):
        plain, cache = Stack.plain({}), Stack.of(CACHE, PLAIN)
        self.assertEqual(apart(plain, (0,), (1,)), 1)
        self.assertEqual(apart(plain, (10 ** 50,), (10 ** 50 + 1,)), 1)
        self.assertIsNone(apart(plain, (10 ** 50,), (10 ** 50,)))
        self.assertIsNone(apart(plain, (None,), ("hidden",)))
        self.assertEqual(apart(plain, (None,), (-5,)), 1)
        self.assertEqual([apart(cache, (4, 5), (4, 6), shared=shared) for shared in (True, False)], [2, 2])
        self.assertEqual([apart(cache, (4, 4), (None, 4), shared=shared) for shared in (True, False)], [1, 1])
        for shared in (True, False):
            self.assertIsNone(apart(cache, (4, None), (4, "hidden"), shared=shared))
        self.assertEqual([apart(cache, ("hidden", 4), (None, None), shared=shared) for shared in (True, False)], [2, 3])
        shut = Stack.of(SHUT, PLAIN)
        self.assertEqual([apart(shut, (4, 5), (4, 6), shared=shared) for shared in (True, False)], [None, None])
        double = Stack.of(THROUGH, PLAIN)
        self.assertEqual([apart(double, (4, 4), (None, 4), shared=shared) for shared in (True, False)], [2, None])

    def test_what_the_layers_have_does_not_matter(self):
        stack = Stack((CACHE, PLAIN), ({0: 5, 1: 8}, {0: "hidden", 1: 6}))
        self.assertEqual(apart(stack, (4, 5), (4, 6)), 2)
        self.assertIsNone(apart(stack, (4, "hidden"), (4, None)))

    def test_tuples_that_are_no_columns(self):
        stack = Stack.of(CACHE, PLAIN)
        for wrong in (
            (), (None,), (None, None, None), [None, None], None, 5, "hidden", (None, "hid"), (None, ""), (True, None),
            (0, False), (None, (1,)), ((None, None),), (None, [1]), {}, {0: 1, 1: 2}, (None, b"hidden"), ("HIDDEN", 1),
            stack, True,
        ):
            for one, other in ((wrong, (1, 1)), ((1, 1), wrong), (wrong, wrong)):
                for shared in (True, False):
                    with self.assertRaises(BadColumn) as caught:
                        apart(stack, one, other, shared=shared)
                    self.assertIs(type(caught.exception), BadColumn)

    def test_a_stack_comes_ahead_of_a_column(self):
        for wrong in NO_STACKS:
            for one, other in (((1,), (2,)), (None, (1,)), ((), ())):
                with self.assertRaises(BadStack) as caught:
                    apart(wrong, one, other)
                self.assertIsNone(caught.exception.part)


class ObjectsTest(unittest.TestCase):
    groups = [[(None,), ("hidden",)], [(3,)]]
    tests = {(0, 1): (("ask",),)}

    def test_attributes_len_and_iteration(self):
        some = Classes(self.groups, self.tests)
        self.assertEqual((some.groups, some.tests, len(some)), (self.groups, self.tests, 2))
        self.assertEqual((list(some), list(some)), (self.groups, self.groups))
        self.assertEqual((len(Classes([], {})), list(Classes([], {}))), (0, []))
        some.groups.append([(4,)])
        self.assertEqual((len(some), list(some)[2]), (3, [(4,)]))

    def test_lists_and_dict_are_copied(self):
        groups, tests = [list(group) for group in self.groups], dict(self.tests)
        some = Classes(groups, tests)
        groups[0].append((5,))
        groups.append([])
        tests.clear()
        self.assertEqual((some.groups, some.tests), (self.groups, self.tests))
        some.groups[1].clear()
        some.groups.clear()
        some.tests[0, 2] = ()
        self.assertEqual((groups, tests), ([[(None,), ("hidden",), (5,)], [(3,)], []], {}))

    def test_equal_are_those_with_equal_attributes(self):
        one = Classes(self.groups, self.tests)
        self.assertTrue(one == Classes([list(group) for group in self.groups], dict(self.tests)))
        self.assertFalse(one != Classes([list(group) for group in self.groups], dict(self.tests)))
        turned = [self.groups[0][::-1], self.groups[1]]
        for other in (
            Classes(self.groups[::-1], self.tests), Classes(turned, self.tests), Classes(self.groups, {}),
            Classes(self.groups, {(0, 1): (("has",),)}), Classes([], self.tests), Stack.of(PLAIN),
        ):
            self.assertFalse(one == other)
            self.assertTrue(one != other)
            self.assertFalse(other == one)
        both = Classes(self.groups, {(0, 1): (), (0, 2): ()}), Classes(self.groups, {(0, 2): (), (0, 1): ()})
        self.assertEqual(*both)


class BadArgumentsTest(unittest.TestCase):
    def test_no_stacks(self):
        for wrong in NO_STACKS + [Classes([], {})]:
            for work in (classes, Classes([], {}).shows, Classes([[()]], {(): ()}).shows):
                for shared in (True, False):
                    with self.assertRaises(BadStack) as caught:
                        work(wrong, shared=shared)
                    self.assertIsNone(caught.exception.part)

    def test_shared_is_keyword_only(self):
        for work in (classes, Classes([], {}).shows):
            with self.assertRaises(TypeError):
                work(Stack.of(PLAIN), True)
        with self.assertRaises(TypeError):
            apart(Stack.of(PLAIN), (1,), (2,), True)

    def test_shared_is_true_if_it_is_left_out(self):
        double = Stack.of(THROUGH, PLAIN)
        self.assertEqual(classes(double), classes(double, shared=True))
        self.assertNotEqual(len(classes(double)), len(classes(double, shared=False)))
        self.assertEqual(apart(double, (4, 4), (None, 4)), 2)


if __name__ == "__main__":
    unittest.main()

"""[1] and the interface of layermap/stacks.py."""

import unittest

from layermap.errors import BadDeed, BadKey, BadStack, BadValue, LayerError, Missing
from layermap.stacks import Stack, flat
from reference import CACHE, HIDING, PLAIN, any_contents, any_layers, chance, columns

NO_INTEGERS = [None, True, False, "1", b"1", "hidden", [], [1], {}, {1: 2}, (), (1,), set(), Stack.plain({}), object()]

NO_DEEDS = [
    None, 5, True, "ask", ["ask"], (), {}, {"ask": 1}, ("ask", None), ("ask", 0), ("has", 1), ("forget", 1), ("write",),
    ("write", None), ("write", True), ("write", "1"), ("write", [1]), ("write", (1,)), ("write", 1, 2), ("beneath",),
    ("beneath", False), ("beneath", "hidden"), ("beneath", [None]), ("beneath", 1, 2), ("Ask",), ("hide",), (None,),
    (0,), (["ask"],), (("ask",),), ({},), ("told", 0), (["write"], 1), ("", 1), ("seen",), ["write", 1],
]


def sample():
    return Stack((HIDING, CACHE, PLAIN), ({1: 5, 2: "hidden"}, {}, {1: 6, 2: 7, -3: 8, 10 ** 20: 9}))


def known(stack):
    return {key: stack.column(key) for key in (-3, 0, 1, 2, 3, 10 ** 20)}


class SeenTest(unittest.TestCase):
    def test_item(self):
        stack = sample()
        self.assertEqual([stack[1], stack[-3], stack[10 ** 20]], [5, 8, 9])
        self.assertEqual(known(stack), known(sample()))

    def test_missing_has_the_key_as_its_number(self):
        for key in (2, 0, -77, 10 ** 60):
            with self.assertRaises(Missing) as caught:
                sample()[key]
            self.assertEqual(caught.exception.number, key)

    def test_an_item_is_seen_and_not_asked(self):
        stack = Stack((CACHE, ("here", "here", "look", ("made", 1))), ({}, {4: 3}))
        self.assertEqual((stack[4], stack.column(4)), (3, (None, 3)))
        with self.assertRaises(Missing):
            stack[5]
        self.assertEqual(stack.column(5), (None, None))

    def test_zero_is_seen(self):
        stack = Stack.plain({0: 0})
        self.assertEqual((stack[0], 0 in stack, len(stack), stack.visible()), (0, True, 1, [0]))

    def test_in_len_and_visible(self):
        stack = sample()
        self.assertEqual([key in stack for key in (1, 2, 3, -3, 10 ** 20)], [True, False, False, True, True])
        self.assertEqual(len(stack), 3)
        self.assertEqual(stack.visible(), [-3, 1, 10 ** 20])
        self.assertIs(1 in stack, True)
        self.assertIs(1 not in stack, False)

    def test_visible_is_new_each_time(self):
        stack = sample()
        stack.visible().append(4)
        self.assertEqual(stack.visible(), [-3, 1, 10 ** 20])

    def test_visible_is_ascending_in_any_order_of_the_dict(self):
        stack = Stack.plain({5: 1, -5: 1, 0: 1, 10 ** 30: 1, -(10 ** 30): 1})
        self.assertEqual(stack.visible(), [-(10 ** 30), -5, 0, 5, 10 ** 30])

    def test_shut_is_not_seen_through(self):
        stack = Stack((("here", "here", "shut", None), PLAIN), ({1: 2}, {1: 3, 4: 5}))
        self.assertEqual((stack.visible(), len(stack), 4 in stack), ([1], 1, False))

    def test_columns(self):
        self.assertEqual(known(sample()), {
            -3: (None, None, 8), 0: (None, None, None), 1: (5, None, 6), 2: ("hidden", None, 7), 3: (None, None, None),
            10 ** 20: (None, None, 9),
        })

    def test_iterating_raises_a_type_error(self):
        for use in (iter, list, tuple, sorted, lambda stack: [key for key in stack]):
            for stack in (sample(), Stack.of(PLAIN), Stack.plain({0: 0, 1: 1})):
                with self.assertRaises(TypeError):
                    use(stack)


class ChangeTest(unittest.TestCase):
    def test_setting_an_item_writes(self):
        stack = Stack((("both", "here", "look", None), ("down", "here", "look", None), PLAIN))
        stack[-2] = 10 ** 30
        self.assertEqual(stack.column(-2), (10 ** 30, None, 10 ** 30))

    def test_ask_forget_and_beneath(self):
        stack = sample()
        self.assertEqual((stack.ask(-3), stack.column(-3)), (8, (None, 8, 8)))
        self.assertEqual((stack.ask(2), stack.ask(0)), (None, None))
        self.assertIs(stack.forget(1), True)
        self.assertIs(stack.forget(1), False)
        self.assertEqual(stack.column(1), ("hidden", None, 6))
        self.assertIsNone(stack.beneath(1, -9))
        self.assertEqual(stack.column(1), ("hidden", None, -9))
        self.assertIsNone(stack.beneath(1, None))
        self.assertEqual(stack.column(1), ("hidden", None, None))

    def test_do_none_one_and_several(self):
        stack = sample()
        self.assertEqual(stack.do(1), [])
        self.assertEqual(known(stack), known(sample()))
        self.assertEqual(stack.do(1, ("ask",)), [5])
        deeds = (("forget",), ("has",), ("beneath", 4), ("write", -1), ("ask",), ("beneath", None))
        self.assertEqual(stack.do(1, *deeds), [True, False, None, None, -1, None])
        self.assertEqual(stack.column(1), (-1, None, None))

    def test_a_returned_list_of_answers_is_new(self):
        stack = sample()
        stack.do(1, ("ask",)).append(3)
        self.assertEqual(stack.do(1, ("ask",)), [5])

    def test_writing_a_dict(self):
        stack = Stack((("both", "here", "look", None), PLAIN), ({2: "hidden"}, {1: 1}))
        same = stack
        pairs = {2: -2, 1: 10, 10 ** 20: 3}
        stack |= pairs
        self.assertIs(stack, same)
        self.assertEqual(pairs, {2: -2, 1: 10, 10 ** 20: 3})
        self.assertEqual([stack.column(key) for key in (1, 2, 10 ** 20)], [(10, 10), (-2, -2), (3, 3)])

    def test_writing_an_empty_dict(self):
        stack = sample()
        stack |= {}
        self.assertEqual(stack, sample())

    def test_the_dict_is_not_kept(self):
        stack, pairs = Stack.of(PLAIN), {1: 2}
        stack |= pairs
        pairs[1] = pairs[3] = 4
        self.assertEqual((stack[1], stack.visible()), (2, [1]))

    def test_a_dict_is_written_in_its_order(self):
        done = []

        class Watched(Stack):
            def _deed(self, key, deed):
                done.append((key, deed))
                return Stack._deed(self, key, deed)

        stack = Watched.of(PLAIN)
        stack |= {5: 1, -1: 2, 3: 4}
        self.assertEqual(done, [(5, ("write", 1)), (-1, ("write", 2)), (3, ("write", 4))])


class NewStackTest(unittest.TestCase):
    def test_sum_has_the_layers_with_what_they_have(self):
        first, second = Stack((HIDING,), ({1: 5, 2: "hidden"},)), Stack((CACHE, PLAIN), ({1: 7}, {2: 8, 3: 9}))
        both = first + second
        self.assertEqual(both.layers, (HIDING, CACHE, PLAIN))
        self.assertEqual([both.column(key) for key in (1, 2, 3, 4)], [
            (5, 7, None), ("hidden", None, 8), (None, None, 9), (None, None, None),
        ])
        turned = second + first
        self.assertEqual((turned.layers, turned.column(2)), ((CACHE, PLAIN, HIDING), (None, 8, "hidden")))

    def test_sum_of_one_and_one(self):
        both = Stack.plain({1: 2}) + Stack.plain({1: 3})
        self.assertEqual(both, Stack((PLAIN, PLAIN), ({1: 2}, {1: 3})))

    def test_sums_are_independent(self):
        first, second = Stack.plain({1: 2}), Stack.plain({1: 3})
        both = first + second
        both.do(1, ("forget",), ("beneath", 9))
        self.assertEqual((first[1], second[1], both[1]), (2, 3, 9))
        first[1], second[1] = 7, 8
        self.assertEqual(both.column(1), (None, 9))
        twice = first + first
        twice[1] = 0
        self.assertEqual((twice.column(1), first[1]), ((0, 7), 7))

    def test_a_sum_of_more_than_three_layers(self):
        two, three = Stack.of(PLAIN, PLAIN), sample()
        for one, other in ((two, two), (three, Stack.of(PLAIN)), (Stack.of(PLAIN), three), (three, three)):
            with self.assertRaises(BadStack) as caught:
                one + other
            self.assertEqual(caught.exception.part, "LAYERS")
        self.assertEqual(three, sample())

    def test_twins_are_equal_and_independent(self):
        numbers = chance(6)
        for _ in range(200):
            count = numbers.randrange(1, 4)
            stack = Stack(any_layers(numbers, count), any_contents(numbers, count))
            twin = stack.twin()
            self.assertEqual((twin == stack, twin is stack, twin.layers), (True, False, stack.layers))
            twin.beneath(50, 4)
            self.assertEqual((twin == stack, stack.column(50)[-1]), (False, None))
            stack.beneath(51, 4)
            self.assertIsNone(twin.column(51)[-1])

    def test_flat(self):
        stack = flat(sample())
        self.assertEqual((stack.layers, stack.visible()), ((PLAIN,), [-3, 1, 10 ** 20]))
        self.assertEqual([stack.column(key) for key in (-3, 1, 2)], [(8,), (5,), (None,)])
        self.assertEqual(stack, Stack.plain({1: 5, -3: 8, 10 ** 20: 9}))
        hooked = Stack.of(("here", "here", "look", ("told", 1)))
        self.assertEqual(flat(hooked), Stack.of(PLAIN))

    def test_flat_is_independent(self):
        stack = Stack.plain({1: 2})
        other = flat(stack)
        other[1] = 3
        self.assertEqual((stack[1], other[1]), (2, 3))

    def test_flat_of_no_stack(self):
        for wrong in (None, 5, (), {}, {1: 2}, "stack", [], (PLAIN,), True, LayerError):
            with self.assertRaises(BadStack) as caught:
                flat(wrong)
            self.assertIsNone(caught.exception.part)

    def test_layers_is_a_tuple(self):
        self.assertEqual(sample().layers, (HIDING, CACHE, PLAIN))
        self.assertIs(type(sample().layers), tuple)


class EqualTest(unittest.TestCase):
    def test_equal_are_layers_and_columns_of_all_keys(self):
        self.assertTrue(sample() == sample())
        self.assertFalse(sample() != sample())
        for other in (
            Stack((HIDING, CACHE, PLAIN), ({1: 5}, {}, {1: 6, 2: 7, -3: 8, 10 ** 20: 9})),
            Stack((HIDING, CACHE, PLAIN), ({1: 5, 2: 4}, {}, {1: 6, 2: 7, -3: 8, 10 ** 20: 9})),
            Stack((HIDING, CACHE, PLAIN), ({1: 5, 2: "hidden"}, {3: 3}, {1: 6, 2: 7, -3: 8, 10 ** 20: 9})),
            Stack((HIDING, PLAIN, PLAIN), ({1: 5, 2: "hidden"}, {}, {1: 6, 2: 7, -3: 8, 10 ** 20: 9})),
            Stack.of(HIDING, CACHE, PLAIN), flat(sample()),
        ):
            self.assertFalse(sample() == other)
            self.assertTrue(sample() != other)

    def test_the_order_of_writing_does_not_matter(self):
        one, other = Stack.of(PLAIN), Stack.of(PLAIN)
        one.do(1, ("write", 1))
        one.do(2, ("write", 2))
        other.do(2, ("write", 2))
        other.do(1, ("write", 1))
        self.assertEqual(one, other)

    def test_what_is_forgotten_leaves_nothing(self):
        for deed in (("forget",), ("beneath", None)):
            stack = Stack.plain({1: 2})
            stack.do(1, deed)
            self.assertEqual(stack, Stack.of(PLAIN))
        stack = Stack.plain({})
        stack.do(4, ("ask",), ("has",), ("forget",), ("beneath", None))
        self.assertEqual(stack, Stack.plain({}))

    def test_a_hidden_key_is_not_nothing(self):
        self.assertNotEqual(Stack.plain({1: "hidden"}), Stack.plain({}))

    def test_other_objects_of_the_package(self):
        self.assertFalse(sample() == Missing(1))
        self.assertTrue(sample() != Missing(1))

    def test_equality_follows_all_columns(self):
        numbers = chance(7)
        for _ in range(500):
            layers = any_layers(numbers, 2)
            one, other = any_contents(numbers, 2), any_contents(numbers, 2)
            self.assertEqual(Stack(layers, one) == Stack(layers, other), columns(one) == columns(other))


class RefusedTest(unittest.TestCase):
    def refused(self, error, work):
        stack = sample()
        with self.assertRaises(error) as caught:
            work(stack)
        self.assertIs(type(caught.exception), error)
        self.assertEqual((stack == sample(), known(stack)), (True, known(sample())))
        return caught.exception

    def test_bad_keys(self):
        for key in NO_INTEGERS:
            for work in (
                lambda stack: stack[key], lambda stack: key in stack, lambda stack: key not in stack,
                lambda stack: stack.column(key), lambda stack: stack.ask(key), lambda stack: stack.forget(key),
                lambda stack: stack.beneath(key, 1), lambda stack: stack.beneath(key, None), lambda stack: stack.do(key),
                lambda stack: stack.do(key, ("ask",)), lambda stack: stack.__setitem__(key, 1),
            ):
                self.refused(BadKey, work)

    def test_bad_values(self):
        for value in NO_INTEGERS:
            self.refused(BadValue, lambda stack: stack.__setitem__(1, value))
            if value is not None:
                self.refused(BadValue, lambda stack: stack.beneath(1, value))

    def test_bad_deeds(self):
        for wrong in NO_DEEDS:
            self.refused(BadDeed, lambda stack: stack.do(1, wrong))
            self.refused(BadDeed, lambda stack: stack.do(1, wrong, ("ask",)))

    def test_good_deeds_ahead_of_one_that_is_none_are_not_done(self):
        for wrong in NO_DEEDS:
            self.refused(BadDeed, lambda stack: stack.do(1, ("write", 9), ("forget",), ("beneath", 3), wrong))
            self.refused(BadDeed, lambda stack: stack.do(0, ("write", 9), wrong, ("write", 9)))

    def test_a_key_comes_ahead_of_a_value_and_a_deed(self):
        self.refused(BadKey, lambda stack: stack.__setitem__(True, "x"))
        self.refused(BadKey, lambda stack: stack.beneath("x", True))
        self.refused(BadKey, lambda stack: stack.do(None, ("write",)))
        self.refused(BadKey, lambda stack: stack.do(True, "ask"))

    def test_no_dicts_from_integers_to_integers(self):
        def write(stack, pairs):
            stack |= pairs

        wrong = [
            None, 5, True, [], [(1, 2)], (), "", {True: 1}, {1: True}, {1: False}, {1: "hidden"}, {1: None}, {"1": 1},
            {None: 1}, {(1,): 1}, {1: [1]}, {1: (1,)}, {1: {}}, {0: 1, 1: 2, 3: True}, {0: 1, 3: "hidden", 1: 2},
            {7: 7, "x": 1}, {7: 7, False: 1}, Stack.plain({1: 2}),
        ]
        for pairs in wrong:
            self.assertEqual(self.refused(BadStack, lambda stack: write(stack, pairs)).part, "CONTENTS")

    def test_missing_changes_nothing(self):
        self.refused(Missing, lambda stack: stack[2])


if __name__ == "__main__":
    unittest.main()

"""[7] The fewest layers that are enough, with what shows it."""

import itertools
import unittest

from layermap.alike import Alike, Parts, alike
from layermap.errors import BadStack
from layermap.fewest import Fewest, fewest, fewest_size
from layermap.stacks import Stack
from reference import ALONE, CACHE, HIDING, IDLE, NO_STACKS, PLAIN, SHARED, SHUT, THROUGH, TOLD, WRONG_DEEDS
from reference import answers, closed, columns, distance, sampled_stacks, starts


def choices(count):
    """All choices of so many layers."""
    uppers = [some for size in range(count) for some in itertools.combinations(range(count - 1), size)]
    return [some + (count - 1,) for some in uppers]


def taken(things, choice):
    return tuple(things[at] for at in choice)


class FoundTest(unittest.TestCase):
    """What is returned, against deeds done by tests/reference.py."""

    def number(self, layers, contents, choice, shared):
        """The least number of deeds that part the whole stack and that of a choice."""
        some, held = taken(layers, choice), taken(contents, choice)
        return distance(layers, some, starts(layers, some, contents, held), SHARED if shared else ALONE)

    def check(self, layers, contents, shared):
        stack, count, told = Stack(layers, contents), len(layers), (layers, contents, shared)
        found = fewest(stack, shared=shared)
        self.assertIs(found.shows(stack, shared=shared), True, told)
        self.assertEqual(fewest_size(stack, shared=shared), len(found.kept), told)
        numbers = {choice: self.number(layers, contents, choice, shared) for choice in choices(count)}
        size = min(len(choice) for choice, number in numbers.items() if number is None)
        self.assertEqual((len(found.kept), numbers.get(found.kept, 0)), (size, None), told)
        kept, held = taken(layers, found.kept), taken(contents, found.kept)
        pairs = {pair: True for pair in found.pairs}
        self.assertTrue(closed((layers, columns(contents)), (kept, columns(held)), pairs, shared), told)
        self.assertEqual(sorted(found.parts), sorted(some for some in numbers if len(some) < size), told)
        for choice, (key, deeds) in found.parts.items():
            parted = [answers(some, columns(held).get(key, (None,) * len(some)), deeds)[-1] for some, held in (
                (layers, contents), (taken(layers, choice), taken(contents, choice)))]
            self.assertNotEqual(*parted, told)
            self.assertTrue(shared or "beneath" not in [deed[0] for deed in deeds])
        return count, size

    def test_any_stacks(self):
        seen = {}
        for layers, contents in sampled_stacks(20, 900):
            for shared in (True, False):
                sizes = self.check(layers, contents, shared)
                seen[sizes] = seen.get(sizes, 0) + 1
        self.assertEqual(sorted(seen), [(1, 1), (2, 1), (2, 2), (3, 1), (3, 2), (3, 3)])
        self.assertGreater(min(seen.values()), 25)

    def test_layers_that_do_little(self):
        near = [PLAIN, IDLE, THROUGH, SHUT, HIDING, ("both", "down", "look", None), ("down", "here", "keep", None)]
        for layers in itertools.product(near, repeat=3):
            self.check(layers, ({}, {}, {}), True)
        for layers in itertools.product(near[:5], repeat=3):
            self.check(layers, ({}, {}, {}), False)


class KeptTest(unittest.TestCase):
    def kept(self, stack):
        return [fewest(stack, shared=shared).kept for shared in (True, False)]

    def test_one_layer(self):
        for stack in (Stack.of(PLAIN), Stack.plain({1: 2}), Stack.of(TOLD), Stack.of(THROUGH)):
            for shared in (True, False):
                found = fewest(stack, shared=shared)
                self.assertEqual((found.kept, found.parts), ((0,), {}))
                self.assertEqual(found.pairs, alike(stack, stack, shared=shared).pairs)

    def test_a_layer_that_does_nothing(self):
        self.assertEqual(self.kept(Stack.of(IDLE, PLAIN)), [(1,), (1,)])
        self.assertEqual(self.kept(Stack.of(IDLE, IDLE, PLAIN)), [(2,), (2,)])
        self.assertEqual(self.kept(Stack.of(IDLE, CACHE, TOLD)), [(1, 2), (1, 2)])
        self.assertEqual(self.kept(Stack.of(CACHE, IDLE, TOLD)), [(0, 2), (0, 2)])

    def test_a_layer_that_does_nothing_but_has_something(self):
        self.assertEqual(self.kept(Stack((IDLE, PLAIN), ({1: 5}, {}))), [(0, 1), (0, 1)])
        self.assertEqual(self.kept(Stack((IDLE, PLAIN), ({1: "hidden"}, {}))), [(0, 1), (0, 1)])
        self.assertEqual(self.kept(Stack((IDLE, PLAIN), ({}, {1: 5}))), [(1,), (1,)])
        self.assertEqual(self.kept(Stack((IDLE, IDLE, PLAIN), ({}, {1: 5}, {1: 6}))), [(1, 2), (1, 2)])

    def test_layers_that_only_somebody_else_can_tell(self):
        self.assertEqual(self.kept(Stack.of(THROUGH, PLAIN)), [(0, 1), (1,)])
        self.assertEqual(self.kept(Stack.of(PLAIN, PLAIN)), [(0, 1), (1,)])
        self.assertEqual([len(kept) for kept in self.kept(Stack.of(PLAIN, PLAIN, PLAIN))], [2, 1])
        self.assertEqual([len(kept) for kept in self.kept(Stack.of(THROUGH, THROUGH, PLAIN))], [2, 1])
        three = Stack((PLAIN, PLAIN, PLAIN), ({1: 2}, {1: 3}, {1: 4}))
        self.assertEqual(self.kept(three), [(0, 1, 2), (0, 1, 2)])

    def test_parts_of_choices_of_as_many_layers_are_left_out(self):
        # One choice of two layers is alike to the whole, another one is not.
        stack = Stack.of(IDLE, CACHE, TOLD)
        self.assertIsInstance(alike(stack, Stack.of(IDLE, TOLD)), Parts)
        self.assertEqual(list(fewest(stack).parts), [(2,)])

    def test_three_layers_that_are_all_needed(self):
        stack = Stack.of(HIDING, ("both", "here", "keep", None), TOLD)
        found = fewest(stack)
        self.assertEqual((found.kept, fewest_size(stack)), ((0, 1, 2), 3))
        self.assertEqual(sorted(found.parts), [(0, 2), (1, 2), (2,)])

    def test_what_one_key_has_may_need_a_layer(self):
        contents = ({}, {key: 1 for key in range(20)})
        self.assertEqual(self.kept(Stack((SHUT, PLAIN), contents)), [(0, 1), (0, 1)])
        self.assertEqual(self.kept(Stack.of(SHUT, PLAIN)), [(0, 1), (1,)])

    def test_the_stack_is_not_changed(self):
        stack = Stack((CACHE, IDLE, PLAIN), ({1: 2}, {3: "hidden"}, {3: 4}))
        twin = stack.twin()
        for shared in (True, False):
            found = fewest(stack, shared=shared)
            self.assertTrue(found.shows(stack, shared=shared))
            fewest_size(stack, shared=shared)
        self.assertEqual(stack, twin)

    def test_what_is_returned_is_new(self):
        stack = Stack.of(THROUGH, PLAIN)
        found, again = fewest(stack), fewest(stack)
        self.assertEqual(found, again)
        found.pairs.clear()
        found.parts.clear()
        self.assertNotEqual(found, again)
        self.assertTrue(fewest(stack).shows(stack) and again.shows(stack))


def told_of(stack, choice):
    """A key and deeds that part a stack and that of a choice."""
    known = {key: stack.column(key) for key in stack.visible()}
    held = tuple({key: column[at] for key, column in known.items() if column[at] is not None} for at in choice)
    found = alike(stack, Stack(taken(stack.layers, choice), held))
    return found.key, found.deeds


class ShowsTest(unittest.TestCase):
    # Without the last layer but one it is alike; with the base alone it is not.
    stack = Stack((CACHE, IDLE, TOLD), ({4: 1}, {}, {4: 2, 5: 9}))

    def found(self):
        return fewest(self.stack)

    def shown(self, kept=None, pairs=None, parts=None, shared=True):
        found = self.found()
        some = Fewest(
            found.kept if kept is None else kept, found.pairs if pairs is None else pairs,
            found.parts if parts is None else parts)
        return some.shows(self.stack, shared=shared)

    def test_as_returned(self):
        self.assertEqual((self.found().kept, list(self.found().parts)), ((0, 2), [(2,)]))
        self.assertIs(self.shown(), True)
        self.assertIs(self.found().shows(self.stack), True)

    def test_pairs_in_another_order_twice_and_more(self):
        pairs = self.found().pairs
        self.assertIs(self.shown(pairs=pairs[::-1] + pairs[:3]), True)
        more = [((top, None, base), (top, base)) for top in (None, 0, 1, 7) for base in (None, 0, 1, 7)]
        self.assertIs(self.shown(pairs=more + pairs), True)

    def test_pairs_left_out_and_changed(self):
        pairs = self.found().pairs
        for at in range(len(pairs)):
            self.assertIs(self.shown(pairs=pairs[:at] + pairs[at + 1:]), False)
        self.assertIs(self.shown(pairs=[]), False)
        for wrong in (
            ((0, None, 0), (1, 0)), ((None, None, 0), (None, 1)), ((0, 0), (0, 0)), ((0, None, 0), (0, None, 0)),
            ((), ()),
            ((None, "none", None), (None, None)), ((None, None, 1), ("hidden", 1)), ((0, None, True), (0, 1)),
        ):
            self.assertIs(self.shown(pairs=pairs + [wrong]), False, wrong)

    def test_other_choices(self):
        for kept in ((2,), (1, 2), (0, 1, 2)):
            self.assertIs(self.shown(kept=kept), False, kept)
        whole = alike(self.stack, self.stack).pairs
        parts = {**self.found().parts, (1, 2): told_of(self.stack, (1, 2))}
        for deeds in ((("ask",),), (("write", 1), ("beneath", 0), ("ask",)), (("forget",), ("has",))):
            self.assertIs(self.shown(kept=(0, 1, 2), pairs=whole, parts={**parts, (0, 2): (4, deeds)}), False)

    def test_a_choice_that_is_enough_but_not_the_fewest(self):
        double = Stack.of(IDLE, PLAIN)
        pairs = alike(double, double).pairs
        self.assertIs(Fewest((1,), alike(double, Stack.of(PLAIN)).pairs, {}).shows(double), True)
        self.assertIs(Fewest((0, 1), pairs, {}).shows(double), False)
        for deeds in ((("ask",),), (("write", 0), ("beneath", 1), ("ask",)), (("write", 0), ("forget",), ("has",))):
            self.assertIs(Fewest((0, 1), pairs, {(1,): (3, deeds)}).shows(double), False)

    def test_another_choice_of_as_few_layers_may_be_right(self):
        three = Stack.of(PLAIN, PLAIN, PLAIN)
        for kept in ((0, 2), (1, 2)):
            pairs = alike(three, Stack.of(PLAIN, PLAIN)).pairs
            parts = {(2,): (8, (("write", 5), ("beneath", 6), ("ask",)))}
            self.assertIs(Fewest(kept, pairs, parts).shows(three), True)
            turned = [((column[1], column[0], column[2]), other) for column, other in pairs]
            self.assertIs(Fewest(kept, turned, parts).shows(three), False)

    def test_tuples_that_are_no_choices(self):
        parts = self.found().parts
        for wrong in ((), (0,), (0, 1), (2, 0), (0, 0, 2), (-1, 2), (0, 3), (0, 2, 3), (0, 2, 2), (2, 2), (0, 1, 2, 3),
                      (-3, -1), (10 ** 30, 2), (False, 2)):
            self.assertIs(self.shown(kept=wrong), False, wrong)
            self.assertIs(self.shown(parts={**parts, wrong: parts[2,]}), False, wrong)
            self.assertIs(self.shown(parts={wrong: parts[2,]}), False, wrong)

    def test_a_choice_left_out_or_put_in(self):
        parts = self.found().parts
        self.assertIs(self.shown(parts={}), False)
        more = told_of(self.stack, (1, 2))
        self.assertIs(self.shown(parts={**parts, (1, 2): more}), False)
        self.assertIs(self.shown(parts={(1, 2): more}), False)
        three = Stack.of(HIDING, ("both", "here", "keep", None), TOLD)
        found = fewest(three)
        self.assertIs(found.shows(three), True)
        for left in found.parts:
            some = {choice: told for choice, told in found.parts.items() if choice != left}
            self.assertIs(Fewest(found.kept, found.pairs, some).shows(three), False)
        whole = {**found.parts, (0, 1, 2): (0, (("ask",),))}
        self.assertIs(Fewest(found.kept, found.pairs, whole).shows(three), False)

    def test_the_dict_in_any_order(self):
        three = Stack.of(HIDING, ("both", "here", "keep", None), TOLD)
        found = fewest(three)
        for some in itertools.permutations(found.parts.items()):
            self.assertIs(Fewest(found.kept, found.pairs, dict(some)).shows(three), True)

    def test_deeds_with_other_values_and_keys(self):
        for key, deeds in (
            (4, (("write", 7), ("beneath", -7), ("ask",))), (-9, (("write", 10 ** 40), ("beneath", None), ("ask",))),
            (4, (("ask",),)), (4, (("beneath", 3), ("ask",))),
        ):
            self.assertIs(self.shown(parts={(2,): (key, deeds)}), True)

    def test_deeds_that_part_nothing(self):
        for told in (
            (5, (("ask",),)), (4, ()), (4, (("has",),)), (4, (("ask",), ("write", 1))), (0, (("beneath", 5), ("ask",))),
            (True, (("ask",),)), ("4", (("ask",),)), (4, [("ask",)]), (4,), (4, (("ask",),), 4), [4, (("ask",),)],
        ):
            self.assertIs(self.shown(parts={(2,): told}), False, told)

    def test_tuples_that_are_no_deeds(self):
        for wrong in WRONG_DEEDS:
            for deeds in ((wrong,), (wrong, ("ask",)), (("ask",), wrong)):
                self.assertIs(self.shown(parts={(2,): (4, deeds)}), False, wrong)

    def test_with_shared_false(self):
        found = fewest(self.stack, shared=False)
        self.assertIs(found.shows(self.stack, shared=False), True)
        self.assertEqual(found.kept, (0, 2))
        beneath = {(2,): (0, (("write", 0), ("beneath", 1), ("ask",)))}
        self.assertIs(Fewest(found.kept, self.found().pairs, beneath).shows(self.stack, shared=True), True)
        self.assertIs(Fewest(found.kept, self.found().pairs, beneath).shows(self.stack, shared=False), False)
        double = Stack.of(THROUGH, PLAIN)
        alone, both = fewest(double, shared=False), fewest(double)
        self.assertEqual((alone.kept, both.kept), ((1,), (0, 1)))
        self.assertEqual([alone.shows(double), alone.shows(double, shared=False)], [False, True])
        self.assertEqual([both.shows(double), both.shows(double, shared=False)], [True, False])

    def test_of_another_stack(self):
        for stack in (
            Stack.of(PLAIN), Stack.of(CACHE, TOLD), Stack.of(PLAIN, PLAIN, PLAIN), Stack.of(IDLE, CACHE, TOLD),
            Stack((CACHE, IDLE, TOLD), ({4: 1}, {}, {4: 2, 5: 8})),
            Stack((CACHE, SHUT, TOLD), ({4: 1}, {}, {4: 2, 5: 9})),
        ):
            self.assertIs(self.found().shows(stack), False, stack.layers)

    def test_the_current_attributes_count(self):
        some = Fewest((1, 2), [], {})
        some.kept = (0, 2)
        some.pairs = self.found().pairs
        self.assertIs(some.shows(self.stack), False)
        some.parts[2,] = (4, (("ask",),))
        self.assertIs(some.shows(self.stack), True)
        some.pairs.pop()
        self.assertIs(some.shows(self.stack), False)


class ObjectsTest(unittest.TestCase):
    pairs = [((None, 1), (None,)), ((2, 3), ("hidden",))]
    parts = {(1, 2): (5, (("ask",),)), (2,): (-4, (("write", 7), ("has",)))}

    def test_attributes_and_iteration(self):
        some = Fewest((0, 1, 2), self.pairs, self.parts)
        self.assertEqual((some.kept, some.pairs, some.parts), ((0, 1, 2), self.pairs, self.parts))
        self.assertEqual(list(some), [((1, 2), (5, (("ask",),))), ((2,), (-4, (("write", 7), ("has",))))])
        self.assertEqual(list(some), list(some))
        self.assertEqual(list(Fewest((0,), [], {})), [])
        turned = dict(reversed(self.parts.items()))
        self.assertEqual([choice for choice, _ in Fewest((0, 1, 2), [], turned)], [(2,), (1, 2)])
        some.parts[0, 2] = (1, ())
        self.assertEqual(len(list(some)), 3)

    def test_the_list_and_the_dict_are_copied(self):
        pairs, parts = list(self.pairs), dict(self.parts)
        some = Fewest((0, 1, 2), pairs, parts)
        pairs.append(((), ()))
        parts.clear()
        self.assertEqual((some.pairs, some.parts), (self.pairs, self.parts))
        some.pairs.clear()
        some.parts[0, 2] = (0, ())
        self.assertEqual((len(pairs), parts), (3, {}))

    def test_equal_are_those_with_equal_attributes(self):
        one = Fewest((0, 1, 2), self.pairs, self.parts)
        turned = dict(reversed(self.parts.items()))
        for same in (Fewest((0, 1, 2), list(self.pairs), dict(self.parts)), Fewest((0, 1, 2), self.pairs, turned)):
            self.assertTrue(one == same)
            self.assertFalse(one != same)
        for other in (
            Fewest((0, 2), self.pairs, self.parts), Fewest((0, 1, 2), self.pairs[::-1], self.parts),
            Fewest((0, 1, 2), self.pairs, {}), Fewest((0, 1, 2), self.pairs, {**self.parts, (2,): (-4, (("has",),))}),
            Alike(self.pairs), Parts(0, ()), Stack.of(PLAIN),
        ):
            self.assertFalse(one == other)
            self.assertTrue(one != other)
            self.assertFalse(other == one)


class BadArgumentsTest(unittest.TestCase):
    def test_no_stacks(self):
        for wrong in NO_STACKS + [Fewest((0,), [], {})]:
            for work in (fewest, fewest_size, Fewest((0,), [], {}).shows, Fewest((), [((), ())], {(): ()}).shows):
                for shared in (True, False):
                    with self.assertRaises(BadStack) as caught:
                        work(wrong, shared=shared)
                    self.assertIsNone(caught.exception.part)
                with self.assertRaises(BadStack):
                    work(wrong)

    def test_shared_is_keyword_only(self):
        for work in (fewest, fewest_size, Fewest((0,), [], {}).shows):
            with self.assertRaises(TypeError):
                work(Stack.of(PLAIN), True)

    def test_shared_is_true_if_it_is_left_out(self):
        double = Stack.of(THROUGH, PLAIN)
        self.assertEqual((fewest(double), fewest_size(double)), (fewest(double, shared=True), 2))


if __name__ == "__main__":
    unittest.main()

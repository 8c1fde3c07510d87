"""[5], [6] Stacks that are alike, with what shows it; flat stacks."""

import itertools
import unittest

from layermap.alike import Alike, Parts, alike, is_flat, soonest
from layermap.errors import BadStack
from layermap.stacks import Stack, flat
from reference import ALL_LAYERS, ALONE, CACHE, HIDING, PLAIN, SHARED, THROUGH, TOLD, WRONG_DEEDS
from reference import answers, any_contents, any_layers, chance, closed, columns, least, starts


def sampled(seed, count):
    """Pairs of layers and contents, often with such as cannot be told apart."""
    numbers = chance(seed)
    near = [some for some in ALL_LAYERS if some[3] is None]
    for _ in range(count):
        one, other = (tuple(numbers.choice(near) for _ in range(numbers.randrange(1, 4))) for _ in "ab")
        if numbers.randrange(3) == 0:
            one, other = any_layers(numbers, len(one)), any_layers(numbers, len(other))
        contents, opposite = any_contents(numbers, len(one)), any_contents(numbers, len(other))
        kind = numbers.randrange(4)
        if kind == 0:
            other, opposite = one, contents
        elif kind == 1:
            contents, opposite = ({},) * len(one), ({},) * len(other)
        yield one, contents, other, opposite


class FoundTest(unittest.TestCase):
    """What is returned, against deeds done one after the other by tests/reference.py."""

    def check(self, one, contents, other, opposite, shared):
        first, second = Stack(one, contents), Stack(other, opposite)
        found = alike(first, second, shared=shared)
        self.assertIs(found.shows(first, second, shared=shared), True)
        number = soonest(first, second, shared=shared)
        told = (one, contents, other, opposite, shared, found)
        if isinstance(found, Alike):
            self.assertIsNone(number, told)
            pairs = {pair: True for pair in found.pairs}
            self.assertTrue(closed((one, columns(contents)), (other, columns(opposite)), pairs, shared), told)
            return True
        self.assertTrue(isinstance(found, Parts) and isinstance(found.deeds, tuple) and found.deeds)
        parted = [answers(layers, columns(some).get(found.key, (None,) * len(layers)), found.deeds)[-1]
                  for layers, some in ((one, contents), (other, opposite))]
        self.assertNotEqual(*parted, told)
        self.assertTrue(shared or "beneath" not in [deed[0] for deed in found.deeds])
        self.assertEqual(len(Parts(found.key, found.deeds)) >= number, True)
        pairs = starts(one, other, contents, opposite)
        deeds = SHARED if shared else ALONE
        self.assertEqual(least(one, other, pairs, deeds, min(number, 3)), number if number <= 3 else None, told)
        return False

    def test_stacks_of_one_to_three_layers(self):
        alike_ones = 0
        for one, contents, other, opposite in sampled(8, 1500):
            for shared in (True, False):
                alike_ones += self.check(one, contents, other, opposite, shared)
        self.assertGreater(alike_ones, 500)

    def test_empty_stacks_of_two_layers_and_of_one(self):
        alike_ones = 0
        for layer in ALL_LAYERS:
            for base in (PLAIN, HIDING, TOLD):
                for single in (PLAIN, HIDING, TOLD):
                    for shared in (True, False):
                        alike_ones += self.check((layer, base), ({}, {}), (single,), ({},), shared)
        self.assertGreater(alike_ones, 50)

    def test_values_other_than_0_and_1_tell_nothing_sooner(self):
        wide = SHARED + [("write", 2), ("write", -5), ("beneath", 2)]
        for one, contents, other, opposite in sampled(9, 150):
            number = soonest(Stack(one, contents), Stack(other, opposite))
            pairs = starts(one, other, contents, opposite)
            self.assertEqual(least(one, other, pairs, wide, 2), number if number in (1, 2) else None)

    def test_numbers_of_deeds(self):
        double, single = Stack.of(THROUGH, PLAIN), Stack.of(PLAIN)
        self.assertEqual((soonest(double, single), soonest(double, single, shared=False)), (3, None))
        self.assertEqual(len(alike(double, single)), 3)
        self.assertIsInstance(alike(double, single), Parts)
        self.assertIsInstance(alike(double, single, shared=False), Alike)
        self.assertEqual(soonest(Stack.plain({}), Stack.of(TOLD)), 1)
        self.assertEqual(soonest(Stack.plain({1: 2}), Stack.plain({})), 1)
        self.assertEqual(soonest(Stack.plain({}), Stack.plain({1: 2})), 1)
        self.assertEqual(soonest(Stack.of(PLAIN), Stack.of(HIDING)), None)
        self.assertEqual(soonest(Stack.of(CACHE, PLAIN), Stack.of(PLAIN, PLAIN)), 3)
        self.assertEqual(soonest(Stack.of(CACHE, PLAIN), Stack.of(PLAIN, PLAIN), shared=False), None)
        self.assertEqual(soonest(Stack.of(PLAIN, PLAIN), Stack.of(HIDING, PLAIN)), 2)
        self.assertEqual(soonest(Stack.of(PLAIN, PLAIN), Stack.of(HIDING, PLAIN), shared=False), None)

    def test_keys_that_only_one_of_both_has(self):
        shut = ("here", "here", "shut", None)
        one = Stack((shut, PLAIN), ({}, {5: 1}))
        self.assertEqual(soonest(one, Stack.of(PLAIN), shared=False), None)
        self.assertEqual(soonest(Stack.of(PLAIN), one, shared=False), None)
        self.assertEqual(soonest(Stack.of(PLAIN), one), 2)
        found = alike(one, Stack.of(PLAIN), shared=False)
        self.assertIn(((None, 1), (None,)), found.pairs)
        self.assertIn(((None, None), (None,)), found.pairs)
        self.assertIn(((None,), (None, 1)), alike(Stack.of(PLAIN), one, shared=False).pairs)
        self.assertEqual(soonest(Stack.plain({5: "hidden"}), Stack.plain({})), None)
        self.assertEqual(alike(Stack.plain({5: 1, 6: 2}), Stack.plain({5: 1})), Parts(6, (("ask",),)))

    def test_a_key_that_no_layer_has_may_part_them(self):
        held = {key: 3 for key in range(-2, 4)}
        one, other = Stack.plain(held), Stack((("here", "here", "look", ("told", 0)),), (held,))
        found = alike(one, other)
        self.assertNotIn(found.key, held)
        self.assertEqual((found.deeds, found.shows(one, other)), ((("ask",),), True))

    def test_the_soonest_key_counts(self):
        cached = Stack((CACHE, PLAIN), ({}, {1: 1, 4: 4}))
        looked = Stack((PLAIN, PLAIN), ({}, {1: 1, 4: 4}))
        self.assertEqual(soonest(cached, looked), 2)
        self.assertEqual(soonest(cached, looked, shared=False), 2)
        looked.beneath(4, 5)
        self.assertEqual(soonest(cached, looked), 1)

    def test_other_contents(self):
        self.assertEqual(soonest(Stack.plain({1: 0}), Stack.plain({1: 1})), 1)
        one = Stack((PLAIN, PLAIN), ({1: 5}, {1: 6}))
        other = Stack((PLAIN, PLAIN), ({1: 5}, {1: 10 ** 30}))
        self.assertEqual(soonest(one, other, shared=False), 2)
        self.assertTrue(alike(one, other).shows(one, other))
        down = ("down", "here", "shut", None)
        self.assertEqual(soonest(Stack((down, PLAIN), ({}, {1: 6})), Stack.of(down, PLAIN)), None)

    def test_stacks_are_not_changed(self):
        one, other = Stack((CACHE, PLAIN), ({1: 2}, {3: 4})), Stack((PLAIN, PLAIN), ({1: 2}, {3: 4}))
        twins = one.twin(), other.twin()
        for shared in (True, False):
            found = alike(one, other, shared=shared)
            found.shows(one, other, shared=shared)
            soonest(one, other, shared=shared)
            is_flat(one, shared=shared)
        self.assertEqual((one, other), twins)

    def test_what_is_returned_is_new(self):
        one = Stack.plain({1: 2})
        found, again = alike(one, one), alike(one, one)
        self.assertEqual(found, again)
        found.pairs.clear()
        self.assertNotEqual(found, again)
        self.assertTrue(alike(one, one).shows(one, one))

    def test_many_keys(self):
        one = Stack((THROUGH, PLAIN), ({key: -key for key in range(400)}, {key: -key for key in range(400)}))
        other = Stack.plain({key: -key for key in range(400)})
        self.assertTrue(alike(one, other, shared=False).shows(one, other, shared=False))


class AlikeShowsTest(unittest.TestCase):
    double, single = Stack.of(THROUGH, PLAIN), Stack.of(PLAIN)
    pairs = [((None, None), (None,)), ((0, 0), (0,)), ((1, 1), (1,))]

    def shown(self, pairs, shared=False):
        return Alike(pairs).shows(self.double, self.single, shared=shared)

    def test_right_pairs(self):
        self.assertIs(self.shown(self.pairs), True)
        for some in itertools.permutations(self.pairs):
            self.assertIs(self.shown(list(some)), True)
        self.assertIs(self.shown(self.pairs + self.pairs[:2]), True)
        self.assertIs(self.shown(self.pairs + [((7, 7), (7,)), ((-(10 ** 30), -(10 ** 30)), (-(10 ** 30),))]), True)
        self.assertIs(self.shown(self.pairs + [((5, None), (5,))]), True)

    def test_with_shared(self):
        self.assertIs(self.shown(self.pairs, shared=True), False)
        self.assertIs(Alike(self.pairs).shows(self.double, self.single), False)
        pairs = [((None,), (None,)), ((0,), (0,)), ((1,), (1,))]
        self.assertIs(Alike(pairs).shows(self.single, self.single.twin()), True)
        self.assertIs(Alike(pairs).shows(self.single, self.single), True)

    def test_shared_needs_the_pairs_behind_beneath(self):
        hole = ("down", "here", "shut", None)
        one, other = Stack.of(hole, PLAIN), Stack.of(hole, HIDING)
        blank = ((None, None), (None, None))
        pairs = [blank, ((None, 0), (None, 0)), ((None, 1), (None, 1))]
        self.assertIs(Alike(pairs).shows(one, other), True)
        shut = Stack.of(("here", "here", "shut", None), PLAIN)
        pairs = [((None, None), (None,)), ((0, None), (0,)), ((1, None), (1,))]
        more = [((top, held), (top,)) for top in (None, 0, 1) for held in (0, 1)]
        self.assertIs(Alike(pairs).shows(shut, self.single, shared=False), True)
        self.assertIs(Alike(pairs).shows(shut, self.single), False)
        self.assertIs(Alike(pairs + more).shows(shut, shut), False)
        three = [((top, held), (top, held)) for top in (None, 0, 1) for held in (None, 0, 1)]
        self.assertIs(Alike(three).shows(shut, shut), True)
        for left in range(len(three)):
            self.assertIs(Alike(three[:left] + three[left + 1:]).shows(shut, shut), False)

    def test_a_pair_left_out(self):
        for left in range(3):
            self.assertIs(self.shown(self.pairs[:left] + self.pairs[left + 1:]), False)
        self.assertIs(self.shown([]), False)

    def test_a_pair_that_answers_differently(self):
        for wrong in (((0, 0), (1,)), ((None, None), (0,)), ((2, 2), (3,)), ((0, 0), (None,)), ((6, 5), (5,))):
            self.assertIs(self.shown(self.pairs + [wrong]), False, wrong)

    def test_a_pair_that_leads_out_of_the_list(self):
        cached = Stack.of(CACHE, PLAIN)
        pairs = [((top, base), (top, base)) for top in (None, 0, 1) for base in (None,)]
        self.assertIs(Alike(pairs).shows(cached, cached, shared=False), True)
        self.assertIs(Alike(pairs + [((None, 7), (None, 7))]).shows(cached, cached, shared=False), False)

    def test_a_pair_that_differs_later_only(self):
        one, other = Stack((PLAIN, PLAIN), ({1: 5}, {1: 6})), Stack((PLAIN, PLAIN), ({1: 5}, {1: 4}))
        pairs = [((top, held), (top, held)) for top in (None, 0, 1, 5) for held in (None, 0, 1, 4, 6)]
        self.assertIs(Alike(pairs).shows(one, one), True)
        self.assertIs(Alike(pairs + [((5, 6), (5, 4))]).shows(one, other), False)

    def test_the_columns_of_a_key_are_missing(self):
        one, other = Stack((THROUGH, PLAIN), ({4: 9}, {4: 9})), Stack.plain({4: 9})
        self.assertIs(Alike(self.pairs).shows(one, other, shared=False), False)
        self.assertIs(Alike(self.pairs + [((9, 9), (9,))]).shows(one, other, shared=False), True)
        self.assertIs(Alike(self.pairs).shows(self.double, Stack.plain({4: "hidden"}), shared=False), False)
        more = self.pairs + [((None, None), ("hidden",))]
        self.assertIs(Alike(more).shows(self.double, Stack.plain({4: "hidden"}), shared=False), True)
        shut = Stack((("here", "here", "shut", None), PLAIN), ({}, {4: 3}))
        pairs = [((None, None), (None,)), ((0, None), (0,)), ((1, None), (1,))]
        self.assertIs(Alike(pairs).shows(shut, self.single, shared=False), False)
        more = [((None, 3), (None,)), ((0, 3), (0,)), ((1, 3), (1,))]
        self.assertIs(Alike(pairs + more).shows(shut, self.single, shared=False), True)

    def test_the_columns_of_a_key_that_no_layer_has_are_missing(self):
        told = Stack((("here", "here", "look", ("made", 1)),), ({3: 1},))
        pairs = [((0,), (0,)), ((1,), (1,))]
        forgetful = [((None,), (None,))]
        self.assertIs(Alike(pairs + forgetful).shows(told, told, shared=False), True)
        hiding = Stack(((("here", "hide", "look", None)),), ({3: 1},))
        pairs = [((held,), (held,)) for held in ("hidden", 0, 1)]
        self.assertIs(Alike(pairs).shows(hiding, hiding, shared=False), False)
        self.assertIs(Alike(pairs + forgetful).shows(hiding, hiding, shared=False), True)

    def test_tuples_that_are_no_columns(self):
        for wrong in (
            ((None, None), (None, None)), ((None,), (None,)), ((), ()), ((None, None, None), (None,)),
            ((None, "hid"), (None,)), (("", None), (None,)), ((None, None), ("none",)), ((5, 5), ("5",)),
            ((0, 0), ()), ((0, 0, 0), (0,)), ((True, True), (True,)), ((0, 0), (False,)),
        ):
            self.assertIs(self.shown(self.pairs + [wrong]), False, wrong)
            self.assertIs(self.shown([wrong] + self.pairs), False, wrong)

    def test_the_other_way_round(self):
        turned = [(second, first) for first, second in self.pairs]
        self.assertIs(Alike(turned).shows(self.single, self.double, shared=False), True)
        self.assertIs(Alike(turned).shows(self.double, self.single, shared=False), False)

    def test_the_current_attribute_counts(self):
        shown = Alike(self.pairs)
        shown.pairs.pop()
        self.assertIs(shown.shows(self.double, self.single, shared=False), False)
        shown.pairs = list(self.pairs)
        self.assertIs(shown.shows(self.double, self.single, shared=False), True)


class PartsShowsTest(unittest.TestCase):
    double, single = Stack.of(THROUGH, PLAIN), Stack.of(PLAIN)
    deeds = (("write", 0), ("beneath", 1), ("ask",))

    def shown(self, deeds, shared=True, key=3):
        return Parts(key, deeds).shows(self.double, self.single, shared=shared)

    def test_right_deeds(self):
        for key in (3, 0, -8, 10 ** 40):
            self.assertIs(self.shown(self.deeds, key=key), True)
        self.assertIs(self.shown((("write", 10 ** 40), ("beneath", None), ("ask",))), True)
        self.assertIs(self.shown((("write", -7), ("beneath", -6), ("has",), ("ask",))), True)
        self.assertIs(self.shown((("write", 5), ("beneath", None), ("has",))), True)
        self.assertIs(self.shown((("write", 5), ("beneath", None), ("forget",))), True)

    def test_earlier_answers_may_differ_too(self):
        self.assertIs(self.shown(self.deeds + (("ask",),)), True)
        self.assertIs(self.shown(self.deeds + (("write", 1),)), False)
        self.assertIs(self.shown(self.deeds + (("write", 1), ("ask",))), False)

    def test_deeds_to_the_last_of_which_the_answers_are_the_same(self):
        self.assertIs(self.shown(self.deeds[:2]), False)
        self.assertIs(self.shown(self.deeds[:1]), False)
        self.assertIs(self.shown((("ask",),)), False)
        self.assertIs(self.shown((("write", 4), ("beneath", 4), ("ask",))), False)

    def test_no_deeds_at_all(self):
        self.assertIs(self.shown(()), False)
        self.assertIs(Parts(3, ()).shows(Stack.plain({3: 1}), Stack.plain({3: 2})), False)

    def test_beneath_where_shared_is_false(self):
        self.assertIs(self.shown(self.deeds, shared=False), False)
        one, other = Stack.plain({3: 1}), Stack.plain({3: 2})
        self.assertIs(Parts(3, (("ask",),)).shows(one, other, shared=False), True)
        told = Stack.of(TOLD)
        deeds = (("beneath", None), ("ask",))
        self.assertIs(Parts(3, deeds).shows(one, told), True)
        self.assertIs(Parts(3, deeds).shows(one, told, shared=False), False)

    def test_tuples_that_are_no_deeds(self):
        one, other = Stack.plain({3: 1}), Stack.plain({3: 2})
        for wrong in WRONG_DEEDS:
            self.assertIs(Parts(3, (wrong, ("ask",))).shows(one, other), False, wrong)
            self.assertIs(Parts(3, (("ask",), wrong)).shows(one, other), False, wrong)
            self.assertIs(Parts(3, (wrong,)).shows(one, other), False, wrong)

    def test_the_key_counts(self):
        one, other = Stack.plain({3: 1}), Stack.plain({3: 2})
        self.assertEqual([Parts(key, (("ask",),)).shows(one, other) for key in (2, 3, 4)], [False, True, False])

    def test_the_current_attributes_count(self):
        one, other = Stack.plain({3: 1}), Stack.plain({3: 2})
        shown = Parts(2, (("ask",),))
        shown.key = 3
        self.assertIs(shown.shows(one, other), True)
        shown.deeds = (("has",),)
        self.assertIs(shown.shows(one, other), False)


class ObjectsTest(unittest.TestCase):
    pairs = [((None, 1), (None,)), ((2, 3), ("hidden",))]

    def test_attributes_len_and_iteration(self):
        some = Alike(self.pairs)
        self.assertEqual((some.pairs, len(some), list(some), list(some)), (self.pairs, 2, self.pairs, self.pairs))
        self.assertEqual((len(Alike([])), list(Alike([]))), (0, []))
        parts = Parts(-4, (("write", 5), ("ask",)))
        self.assertEqual((parts.key, parts.deeds, len(parts)), (-4, (("write", 5), ("ask",)), 2))

    def test_the_list_is_copied(self):
        pairs = list(self.pairs)
        some = Alike(pairs)
        pairs.append(((), ()))
        self.assertEqual(some.pairs, self.pairs)
        some.pairs.clear()
        self.assertEqual(len(pairs), 3)

    def test_equal_are_those_with_equal_attributes(self):
        self.assertTrue(Alike(self.pairs) == Alike(list(self.pairs)))
        self.assertFalse(Alike(self.pairs) != Alike(list(self.pairs)))
        self.assertTrue(Alike(self.pairs) != Alike(self.pairs[::-1]))
        self.assertFalse(Alike(self.pairs) == Alike(self.pairs[:1]))
        self.assertTrue(Parts(1, (("ask",),)) == Parts(1, (("ask",),)))
        self.assertFalse(Parts(1, (("ask",),)) != Parts(1, (("ask",),)))
        for other in (Parts(2, (("ask",),)), Parts(1, (("has",),)), Parts(1, ())):
            self.assertFalse(Parts(1, (("ask",),)) == other)
            self.assertTrue(Parts(1, (("ask",),)) != other)

    def test_objects_of_different_classes_are_not_equal(self):
        some = [Alike([]), Parts(0, ()), Stack.plain({})]
        for one, other in itertools.permutations(some, 2):
            self.assertFalse(one == other)
            self.assertTrue(one != other)


class BadArgumentsTest(unittest.TestCase):
    def test_no_stacks(self):
        good = Stack.plain({})
        works = [alike, soonest, Alike([]).shows, Parts(0, (("ask",),)).shows]
        for wrong in (None, 5, True, "stack", {}, [], (), (PLAIN,), Alike([]), Parts(0, ()), Stack):
            for work, shared in itertools.product(works, (True, False)):
                for one, other in ((wrong, good), (good, wrong), (wrong, wrong)):
                    with self.assertRaises(BadStack) as caught:
                        work(one, other, shared=shared)
                    self.assertIsNone(caught.exception.part)
            with self.assertRaises(BadStack) as caught:
                is_flat(wrong)
            self.assertIsNone(caught.exception.part)

    def test_an_error_goes_ahead_of_wrong_attributes(self):
        with self.assertRaises(BadStack):
            Alike([((), ())]).shows(None, Stack.plain({}))
        with self.assertRaises(BadStack):
            Parts(3, ()).shows(Stack.plain({}), 7)

    def test_shared_is_keyword_only(self):
        for work in (alike, soonest, Alike([]).shows, Parts(0, ()).shows):
            with self.assertRaises(TypeError):
                work(Stack.plain({}), Stack.plain({}), True)
        with self.assertRaises(TypeError):
            is_flat(Stack.plain({}), True)


class FlatTest(unittest.TestCase):
    def flats(self, stack):
        return [is_flat(stack, shared=shared) for shared in (True, False)]

    def test_flat_stacks(self):
        for stack in (
            Stack.of(PLAIN), Stack.plain({1: 2, -3: "hidden"}), Stack.of(("down", "both", "shut", None)),
            Stack((HIDING,), ({1: 2},)), Stack((("down", "down", "look", None), HIDING), ({}, {1: 2})),
        ):
            self.assertEqual(self.flats(stack), [True, True])
        self.assertIs(is_flat(Stack.of(PLAIN)), True)

    def test_stacks_that_are_flat_only_alone(self):
        shut = ("here", "here", "shut", None)
        self.assertEqual(self.flats(Stack.of(THROUGH, PLAIN)), [False, True])
        self.assertEqual(self.flats(Stack.of(PLAIN, PLAIN)), [False, True])
        self.assertEqual(self.flats(Stack.of(CACHE, PLAIN)), [False, True])
        self.assertEqual(self.flats(Stack((shut, PLAIN), ({1: 2}, {1: 3, 4: 5}))), [False, True])
        self.assertEqual(self.flats(Stack.of(("down", "down", "look", None), PLAIN)), [True, True])

    def test_stacks_that_are_not_flat(self):
        self.assertEqual(self.flats(Stack.of(TOLD)), [False, False])
        self.assertEqual(self.flats(Stack.plain({}) + Stack.plain({1: 2})), [False, False])
        self.assertEqual(self.flats(Stack.of(("down", "here", "shut", None), PLAIN)), [False, False])

    def test_flat_is_alike_to_the_flat_stack(self):
        seen = {True: 0, False: 0}
        for one, contents, _, _ in sampled(10, 400):
            stack = Stack(one, contents)
            for shared in (True, False):
                found = is_flat(stack, shared=shared)
                self.assertIs(type(found), bool)
                self.assertEqual(found, soonest(stack, flat(stack), shared=shared) is None)
                seen[found] += 1
        self.assertGreater(min(seen.values()), 20)


if __name__ == "__main__":
    unittest.main()

"""[13] Scopes that are entered and left, layers that are faithful, and what shows it."""

import itertools
import unittest

from layermap.alike import Alike, Parts, alike
from layermap.errors import BadFlag, BadLayer, BadStack
from layermap.scopes import Betrayal, Faithful
from layermap.scopes import entered, faithful, first_betrayal, is_faithful, left
from layermap.stacks import Stack
from reference import ALL_LAYERS, ALONE, CACHE, HIDING, IDLE, NO_STACKS, PLAIN, SHUT, THROUGH, TOLD, WRONG_DEEDS
from reference import after, any_contents, any_layers, betrayal, betrayed, chance, columns, poured
from test_layers import NO_LAYERS

NO_FLAGS = [None, 0, 1, "", "True", b"", [], [True], (), (False,), {}, 10 ** 40, bool]


def error_of(work, *given, **more):
    try:
        work(*given, **more)
    except (BadStack, BadLayer, BadFlag) as error:
        return type(error), getattr(error, "part", None)
    return None


def sampled(seed, count, least=1, most=2):
    """Stacks' layers and contents, and a layer; often such as are faithful."""
    numbers = chance(seed)
    usual = [PLAIN, THROUGH, CACHE, HIDING, SHUT, IDLE, TOLD]
    near = [some for some in ALL_LAYERS if some[3] is None and some[2] != "shut"]
    for _ in range(count):
        many, kind = numbers.randrange(least, most + 1), numbers.randrange(3)
        layers = any_layers(numbers, many) if kind == 0 else tuple(numbers.choice(usual) for _ in range(many))
        yield layers, any_contents(numbers, many), numbers.choice(ALL_LAYERS if kind < 2 else near)


class EnteredTest(unittest.TestCase):
    def test_the_layer_is_above_and_has_nothing(self):
        for layer in ALL_LAYERS:
            for layers, contents in (((TOLD,), ({1: 2, 3: "hidden"},)), ((HIDING, PLAIN), ({1: "hidden"}, {1: 4, -5: 6}))):
                stack = Stack(layers, contents)
                scope = entered(stack, layer)
                self.assertEqual(scope, Stack((layer, *layers), ({}, *contents)))
                self.assertEqual(stack, Stack(layers, contents))
                self.assertEqual(scope.column(1), (None, *stack.column(1)))

    def test_the_scope_is_independent(self):
        stack = Stack((PLAIN,), ({1: 2},))
        scope = entered(stack, THROUGH)
        scope.do(1, ("write", 5), ("beneath", 6))
        scope[3] = 4
        self.assertEqual(stack, Stack.plain({1: 2}))
        stack[1] = 9
        self.assertEqual((scope.column(1), scope.column(3)), ((5, 6), (4, 4)))
        self.assertIsNot(entered(stack, PLAIN), entered(stack, PLAIN))

    def test_entered_twice(self):
        stack = Stack.plain({1: 2})
        scope = entered(entered(stack, HIDING), CACHE)
        self.assertEqual(scope.layers, (CACHE, HIDING, PLAIN))
        self.assertEqual(error_of(entered, scope, PLAIN), (BadStack, "LAYERS"))
        self.assertEqual(left(left(scope)), stack)


class LeftTest(unittest.TestCase):
    def test_poured_and_not_against_the_reference(self):
        for layers, contents, _ in sampled(90, 600, 2, 3):
            stack = Stack(layers, contents)
            self.assertEqual(left(stack, poured=False), Stack(layers[1:], contents[1:]))
            found = left(stack)
            self.assertEqual(found.layers, layers[1:])
            self.assertEqual(found, left(stack, poured=True))
            held = columns(contents)
            blank = (None,) * len(layers)
            for key in [*held, 99, -99]:
                self.assertEqual(found.column(key), poured(layers, held.get(key, blank)), (layers, contents, key))
            self.assertEqual(stack, Stack(layers, contents))

    def test_all_settings_below_with_each_column(self):
        for layer in ALL_LAYERS:
            for column in itertools.product((None, "hidden", 0, 7), repeat=3):
                contents = tuple({} if held is None else {5: held} for held in column)
                stack = Stack((TOLD, layer, PLAIN), contents)
                self.assertEqual(left(stack).column(5), poured(stack.layers, column))
                self.assertEqual(left(stack, poured=False).column(5), column[1:])

    def test_values_hidden_keys_and_nothing(self):
        stack = Stack((HIDING, PLAIN), ({1: 5, 2: "hidden", 4: "hidden"}, {1: 1, 2: 2, 3: 3}))
        self.assertEqual(left(stack), Stack.plain({1: 5, 3: 3}))
        self.assertEqual(left(stack, poured=False), Stack.plain({1: 1, 2: 2, 3: 3}))
        below = Stack((HIDING, THROUGH, PLAIN), ({1: 5, 2: "hidden", 4: "hidden"}, {2: 8}, {1: 1, 2: 2, 3: 3, 4: 4}))
        self.assertEqual(left(below), Stack((THROUGH, PLAIN), ({1: 5}, {1: 5, 3: 3})))
        below = Stack((PLAIN, HIDING, PLAIN), ({1: "hidden", 2: 10 ** 40}, {}, {1: 1, 2: 2}))
        self.assertEqual(left(below), Stack((HIDING, PLAIN), ({1: "hidden", 2: 10 ** 40}, {1: 1, 2: 2})))

    def test_what_is_hidden_below_stays(self):
        stack = Stack((PLAIN, PLAIN), ({1: "hidden", 2: 4}, {1: "hidden", 2: "hidden", 3: "hidden"}))
        self.assertEqual(left(stack), Stack.plain({1: "hidden", 2: 4, 3: "hidden"}))

    def test_the_settings_of_the_layer_that_is_taken_away_do_not_matter(self):
        for layer in ALL_LAYERS:
            stack = Stack((layer, THROUGH, PLAIN), ({1: 5, 2: "hidden"}, {2: 8}, {1: 1, 2: 2}))
            self.assertEqual(left(stack), Stack((THROUGH, PLAIN), ({1: 5}, {1: 5})))

    def test_keys_that_no_layer_has_any_more(self):
        stack = Stack((PLAIN, PLAIN), ({1: "hidden"}, {1: 2}))
        self.assertEqual((left(stack), left(stack).visible()), (Stack.plain({}), []))
        self.assertEqual(left(Stack((HIDING, PLAIN), ({1: "hidden"}, {})), poured=False), Stack.plain({}))

    def test_what_is_left_is_independent(self):
        stack = Stack((PLAIN, PLAIN), ({1: 2}, {3: 4}))
        for flag in (True, False):
            found = left(stack, poured=flag)
            found[3] = 9
            found.beneath(7, 7)
            self.assertEqual(stack, Stack((PLAIN, PLAIN), ({1: 2}, {3: 4})))
        found = left(stack)
        stack.beneath(3, None)
        self.assertEqual(found, Stack.plain({1: 2, 3: 4}))

    def test_one_layer_and_flags(self):
        two = Stack.of(PLAIN, PLAIN)
        for layer in (PLAIN, HIDING, TOLD):
            for flag in [True, False, *NO_FLAGS]:
                self.assertEqual(error_of(left, Stack.of(layer), poured=flag), (BadStack, "LAYERS"))
            self.assertEqual(error_of(left, Stack.of(layer)), (BadStack, "LAYERS"))
        for wrong in NO_FLAGS:
            for stack in (two, Stack.of(TOLD, PLAIN, PLAIN)):
                self.assertEqual(error_of(left, stack, poured=wrong), (BadFlag, None), wrong)
        with self.assertRaises(TypeError):
            left(two, True)


class FoundTest(unittest.TestCase):
    """What is returned, against deeds done one after the other by tests/reference.py."""

    def check(self, layers, contents, layer, seen, wide=False):
        stack, told = Stack(layers, contents), (layers, contents, layer)
        held, blank = columns(contents), (None,) * len(layers)
        starts = [*held.values(), blank]
        deeds = ALONE + ([("write", 9), ("write", -(10 ** 40))] if wide else [])
        least, found = betrayal(layers, layer, starts, deeds), faithful(stack, layer)
        self.assertEqual(first_betrayal(stack, layer), least, told)
        self.assertIs(is_faithful(stack, layer), least is None, told)
        self.assertIs(found.shows(stack, layer), True, told)
        if least is None:
            self.assertIsInstance(found, Faithful)
            listed = set(found.pairs)
            self.assertTrue(listed.issuperset(((None, *column), column) for column in starts), told)
            for above, column in listed:
                self.assertEqual(poured((layer, *layers), above), column, told)
                for deed in ALONE:
                    one, other = after((layer, *layers), above, deed), after(layers, column, deed)
                    self.assertEqual(one[0], other[0], told)
                    self.assertIn((one[1], other[1]), listed, told)
        else:
            self.assertIsInstance(found, Betrayal)
            self.assertEqual((type(found.deeds), type(found.poured)), (tuple, bool))
            self.assertNotIn("beneath", [deed[0] for deed in found.deeds])
            different = betrayed(layers, layer, held.get(found.key, blank), found.deeds)
            self.assertTrue(different[found.poured], told)
            self.assertTrue(found.deeds)
        seen[least, least is not None and found.poured] = seen.get((least, least is not None and found.poured), 0) + 1
        self.assertEqual(stack, Stack(layers, contents))

    def test_any_layers(self):
        seen = {}
        for layers, contents, layer in sampled(91, 1500):
            self.check(layers, contents, layer, seen)
        self.assertGreater(seen[None, False], 50)
        for number in (1, 2):
            self.assertGreater(seen[number, False], 50)
            self.assertGreater(seen[number, True], 20)

    def test_values_other_than_0_and_1_tell_nothing_sooner(self):
        for layers, contents, layer in sampled(92, 300):
            self.check(layers, contents, layer, {}, True)

    def test_all_layers_above_usual_ones(self):
        seen = {}
        for layer in ALL_LAYERS:
            for base in (PLAIN, HIDING, TOLD, SHUT):
                self.check((base,), ({},), layer, seen)
                self.check((base,), ({1: 5, 2: "hidden"},), layer, seen)
                self.check((THROUGH, base), ({}, {1: 5}), layer, seen)
        self.assertGreater(seen[None, False], 20)

    def test_the_least_number_by_trying_all_deeds(self):
        for layers, contents, layer in sampled(93, 120):
            starts = [*columns(contents).values(), (None,) * len(layers)]
            number = first_betrayal(Stack(layers, contents), layer)
            for count in range(4 if number is None else min(number + 1, 4)):
                some = itertools.product(ALONE + [("write", 5)], repeat=count)
                found = any(any(betrayed(layers, layer, column, deeds)) for deeds in some for column in starts)
                self.assertIs(found, count == number, (layers, contents, layer, count))

    def test_facts(self):
        plain = Stack.plain({1: 1, 2: 2})
        self.assertEqual([first_betrayal(plain, layer) for layer in (HIDING, PLAIN, IDLE, CACHE, SHUT)], [None, 1, None, 1, 1])
        through = ("both", "hide", "look", None)
        self.assertEqual([is_faithful(plain, layer) for layer in (through, ("down", "hide", "look", None))], [True, False])
        self.assertEqual(first_betrayal(Stack.of(TOLD), HIDING), 3)
        self.assertEqual([first_betrayal(Stack.of(PLAIN), layer) for layer in (TOLD, ("here", "hide", "look", ("made", 1)))], [1, 1])
        self.assertEqual(first_betrayal(Stack.of(PLAIN), PLAIN), None)
        self.assertEqual(first_betrayal(Stack.of(HIDING, PLAIN), HIDING), 2)
        self.assertEqual(first_betrayal(Stack.of(PLAIN, PLAIN), HIDING), None)

    def test_by_different_answers(self):
        for stack, layer in ((Stack.plain({1: 1}), SHUT), (Stack.of(PLAIN), TOLD), (Stack.plain({4: 4}), PLAIN)):
            found = faithful(stack, layer)
            self.assertIs(found.poured, False)
            self.assertEqual((len(found.deeds), found.shows(stack, layer)), (1, True))
        self.assertEqual(faithful(Stack.plain({4: 4}), PLAIN), Betrayal(4, (("forget",),), False))

    def test_by_different_columns_behind_pouring(self):
        stack, making = Stack.of(("here", "hide", "look", ("told", 0))), ("here", "here", "shut", ("made", 0))
        found = faithful(stack, making)
        self.assertEqual((found.poured, found.deeds, found.shows(stack, making)), (True, (("ask",),), True))
        # All answers are the same here: what is hidden stays so, or is forgotten behind a value.
        stack = Stack.plain({5: "hidden"})
        found = faithful(stack, PLAIN)
        self.assertEqual((found.key, found.poured, len(found.deeds)), (5, True, 2))
        self.assertIs(found.shows(stack, PLAIN), True)
        self.assertIsInstance(alike(entered(stack, PLAIN), stack, shared=False), Alike)

    def test_a_key_that_no_layer_has(self):
        held = {key: 3 for key in range(-2, 4)}
        found = faithful(Stack.plain(held), ("here", "hide", "look", ("told", 1)))
        self.assertNotIn(found.key, held)
        self.assertEqual((found.deeds, found.poured), ((("ask",),), False))

    def test_what_the_keys_have_counts(self):
        layer = ("here", "here", "look", None)
        found = [first_betrayal(Stack.plain(pairs), layer) for pairs in ({}, {5: "hidden"}, {5: 1}, {5: "hidden", 6: 1})]
        self.assertEqual(found, [None, 2, 1, 1])

    def test_beneath_is_not_meant(self):
        """Somebody else who changes the base would tell these apart."""
        scope, stack = entered(Stack.of(PLAIN), HIDING), Stack.of(PLAIN)
        deeds = ("write", 1), ("beneath", 2), ("ask",)
        self.assertNotEqual(scope.do(1, *deeds), stack.do(1, *deeds))
        self.assertIs(is_faithful(Stack.of(PLAIN), HIDING), True)

    def test_what_is_returned_is_new(self):
        stack = Stack.plain({1: 2})
        found, again = faithful(stack, HIDING), faithful(stack, HIDING)
        self.assertEqual(found, again)
        found.pairs.clear()
        self.assertNotEqual(found, again)
        self.assertIs(faithful(stack, HIDING).shows(stack, HIDING), True)
        self.assertIsNot(faithful(stack, PLAIN), faithful(stack, PLAIN))

    def test_nothing_is_changed(self):
        stack = Stack((CACHE, PLAIN), ({1: 2}, {3: 4}))
        twin = stack.twin()
        for layer in ALL_LAYERS:
            self.assertIs(faithful(stack, layer).shows(stack, layer), True)
            first_betrayal(stack, layer)
            is_faithful(stack, layer)
        self.assertEqual(stack, twin)


class FaithfulShowsTest(unittest.TestCase):
    stack = Stack.of(PLAIN)
    pairs = [((None, None), (None,)), ((0, None), (0,)), ((1, None), (1,))]

    def shown(self, pairs, layer=HIDING):
        return Faithful(pairs).shows(self.stack, layer)

    def test_right_pairs(self):
        closed = self.pairs + [(("hidden", None), (None,))]
        self.assertIs(self.shown(closed), True)
        self.assertIs(self.shown(closed[::-1]), True)
        self.assertIs(self.shown(closed + closed[:2]), True)
        self.assertIs(self.shown(closed + [((7, None), (7,)), ((-(10 ** 40), None), (-(10 ** 40),))]), True)
        below = [((top, 6), (top,)) for top in (0, 1)] + [(("hidden", 6), (None,)), ((None, 6), (6,))]
        self.assertIs(self.shown(closed + below), True)
        for at in range(3):
            self.assertIs(self.shown(closed + below[:at] + below[at + 1:]), False)

    def test_one_left_out(self):
        closed = self.pairs + [(("hidden", None), (None,))]
        for at in range(4):
            self.assertIs(self.shown(closed[:at] + closed[at + 1:]), False)
        self.assertIs(self.shown([]), False)
        self.assertIs(self.shown(self.pairs, PLAIN), True)
        for at in range(3):
            self.assertIs(self.shown(self.pairs[:at] + self.pairs[at + 1:], PLAIN), False)

    def test_a_pair_that_answers_differently_or_is_different_behind_pouring(self):
        for wrong in (
            ((0, None), (1,)), ((None, None), (0,)), ((0, None), (None,)), ((None, None), ("hidden",)), ((None, 5), (6,)),
            ((2, None), (3,)), (("hidden", None), ("hidden",)), ((None, "hidden"), (None,)), (("hidden", 4), (4,)),
        ):
            self.assertIs(self.shown(self.pairs + [(("hidden", None), (None,)), wrong]), False, wrong)
            self.assertIs(self.shown(self.pairs + [wrong], PLAIN), False, wrong)

    def test_all_answers_are_the_same_but_the_columns_differ_behind_pouring(self):
        """As an Alike shows that these are alike, only the columns behind pouring are left."""
        down = ("down", "down", "look", None)
        stack = Stack.of(("down", "here", "shut", None), PLAIN)
        some = [((None, None, held), (None, held)) for held in (None, 0, 1)]
        self.assertIs(Faithful(some).shows(stack, down), True)
        more = [((None, None, held), (None, other)) for held, other in itertools.permutations((None, 0, 1), 2)]
        self.assertIs(Alike(some + more).shows(entered(stack, down), stack, shared=False), True)
        self.assertIs(Faithful(some + more).shows(stack, down), False)
        for pair in more:
            self.assertIs(Alike(some + [pair]).shows(entered(stack, down), stack, shared=False), True)
            self.assertIs(Faithful(some + [pair]).shows(stack, down), False)

    def test_a_pair_that_leads_out_of_the_list(self):
        stack = Stack.of(CACHE, PLAIN)
        pairs = faithful(stack, IDLE).pairs
        self.assertIs(Faithful(pairs).shows(stack, IDLE), True)
        self.assertIs(Faithful(pairs + [((None, None, 7), (None, 7))]).shows(stack, IDLE), False)
        more = [((None, top, 7), (top, 7)) for top in (None, 0, 1, 7)]
        self.assertIs(Faithful(pairs + more).shows(stack, IDLE), True)

    def test_the_pairs_at_the_beginning(self):
        """Those of a key with a value, and those of a key that no layer has: neither come about from the others."""
        blank = self.pairs + [(("hidden", None), (None,))]
        held = [((None, 9), (9,)), ((0, 9), (0,)), ((1, 9), (1,)), (("hidden", 9), (None,))]
        stack = Stack.plain({4: 9})
        self.assertIs(Faithful(blank + held).shows(stack, HIDING), True)
        self.assertIs(Faithful(blank).shows(stack, HIDING), False)
        self.assertIs(Faithful(held).shows(stack, HIDING), False)
        for some in (blank[1:] + held, blank + held[1:]):
            self.assertIs(Faithful(some).shows(stack, HIDING), False)
        self.assertIs(Faithful(blank + held).shows(Stack.plain({4: 9, 5: 8}), HIDING), False)
        self.assertIs(Faithful(blank + held).shows(Stack.plain({4: 9, 5: "hidden"}), HIDING), False)

    def test_tuples_that_are_no_columns(self):
        closed = self.pairs + [(("hidden", None), (None,))]
        for wrong in (
            ((None, None), (None, None)), ((None,), (None,)), ((), ()), ((None, None, None), (None,)),
            ((None, "hid"), (None,)), (("", None), (None,)), ((5, None), ("5",)), ((True, None), (True,)), ((0, None), (False,)),
        ):
            self.assertIs(self.shown(closed + [wrong]), False, wrong)
            self.assertIs(self.shown([wrong] + closed), False, wrong)

    def test_the_current_attribute_counts(self):
        some = Faithful(self.pairs)
        self.assertIs(some.shows(self.stack, HIDING), False)
        some.pairs.append((("hidden", None), (None,)))
        self.assertIs(some.shows(self.stack, HIDING), True)
        some.pairs = []
        self.assertIs(some.shows(self.stack, HIDING), False)


class BetrayalShowsTest(unittest.TestCase):
    stack = Stack.plain({1: 1, 2: 2})

    def shown(self, deeds, flag, layer=PLAIN, key=1):
        return Betrayal(key, deeds, flag).shows(self.stack, layer)

    def test_right_ones(self):
        self.assertIs(self.shown((("forget",),), False), True)
        self.assertIs(self.shown((("write", 10 ** 40), ("forget",), ("ask",)), False), True)
        self.assertIs(self.shown((("write", 10 ** 40), ("forget",)), True), True)
        self.assertIs(self.shown((("write", 3), ("forget",), ("forget",)), False), False)
        for key in (0, 7, -(10 ** 40)):
            self.assertIs(Betrayal(key, (("ask",),), False).shows(self.stack, TOLD), True)

    def test_against_the_reference(self):
        for layers, contents, layer in sampled(94, 200):
            stack, held = Stack(layers, contents), columns(contents)
            for count in (0, 1, 2):
                for deeds in itertools.product(ALONE, repeat=count):
                    for key in (0, 1, 9):
                        found = betrayed(layers, layer, held.get(key, (None,) * len(layers)), deeds)
                        shown = tuple(Betrayal(key, deeds, flag).shows(stack, layer) for flag in (False, True))
                        self.assertEqual(shown, found, (layers, contents, layer, deeds))

    def test_no_deeds_at_all(self):
        for layer in ALL_LAYERS:
            for flag in (True, False):
                self.assertIs(self.shown((), flag, layer), False)

    def test_the_flag_tells_which_of_both(self):
        self.assertEqual([self.shown((("forget",),), flag) for flag in (False, True)], [True, True])
        self.assertEqual([self.shown((("forget",), ("ask",)), flag) for flag in (False, True)], [True, True])
        self.assertEqual([self.shown((("forget",), ("write", 5)), flag) for flag in (False, True)], [False, False])
        self.assertEqual([self.shown((("forget",), ("has",), ("write", 5), ("has",)), flag) for flag in (False, True)], [False] * 2)
        self.assertEqual([self.shown((("ask",),), flag, TOLD, 5) for flag in (False, True)], [True, False])
        keeping = Stack.of(("here", "hide", "look", ("told", 0)))
        made = ("here", "here", "shut", ("made", 0))
        shown = [Betrayal(4, (("ask",),), flag).shows(keeping, made) for flag in (False, True)]
        self.assertEqual(shown, [False, True])

    def test_other_flags(self):
        for wrong in NO_FLAGS:
            self.assertIs(self.shown((("forget",),), wrong), False, wrong)

    def test_tuples_that_are_no_deeds(self):
        for wrong in WRONG_DEEDS + [("beneath", 1), ("beneath", None)]:
            for flag in (True, False):
                self.assertIs(self.shown((("forget",),), flag), True)
                for deeds in ((wrong, ("forget",)), (("forget",), wrong), (wrong,), (("write", 1), wrong, ("forget",))):
                    self.assertIs(self.shown(deeds, flag), False, wrong)

    def test_the_key_counts(self):
        found = [Betrayal(key, (("forget",),), flag).shows(self.stack, PLAIN) for key in (0, 1, 2, 3) for flag in (False, True)]
        self.assertEqual(found, [False, False, True, True, True, True, False, False])
        self.assertEqual([self.shown((("forget",),), True, PLAIN, key) for key in (True, "1", None)], [False] * 3)

    def test_the_layer_and_the_stack_count(self):
        deeds = (("forget",),)
        self.assertEqual([self.shown(deeds, True, layer) for layer in (PLAIN, HIDING, IDLE, SHUT)], [True, False, False, True])
        self.assertIs(Betrayal(1, deeds, True).shows(Stack.plain({}), PLAIN), False)

    def test_the_current_attributes_count(self):
        some = Betrayal(0, (("forget",),), False)
        self.assertIs(some.shows(self.stack, PLAIN), False)
        some.key = 2
        self.assertIs(some.shows(self.stack, PLAIN), True)
        some.deeds = (("forget",), ("write", 5))
        self.assertIs(some.shows(self.stack, PLAIN), False)
        some.poured = True
        self.assertIs(some.shows(self.stack, PLAIN), False)
        some.deeds = (("forget",),)
        self.assertIs(some.shows(self.stack, PLAIN), True)


class ObjectsTest(unittest.TestCase):
    pairs = [((None, 1), (None,)), ((2, 3), ("hidden",))]

    def test_attributes_are_set_and_the_list_is_copied(self):
        pairs = list(self.pairs)
        some = Faithful(pairs)
        pairs.append(((), ()))
        self.assertEqual(some.pairs, self.pairs)
        some.pairs.clear()
        self.assertEqual((len(pairs), Faithful([]).pairs), (3, []))
        found = Betrayal(-4, (("write", 5), ("ask",)), True)
        self.assertEqual((found.key, found.deeds, found.poured), (-4, (("write", 5), ("ask",)), True))
        self.assertEqual((Betrayal(0, (), False).deeds, Betrayal(0, (), False).poured), ((), False))

    def test_equal_are_those_with_equal_attributes(self):
        self.assertTrue(Faithful(self.pairs) == Faithful(list(self.pairs)))
        self.assertFalse(Faithful(self.pairs) != Faithful(list(self.pairs)))
        self.assertTrue(Faithful(self.pairs) != Faithful(self.pairs[::-1]))
        self.assertFalse(Faithful(self.pairs) == Faithful(self.pairs[:1]))
        one = Betrayal(1, (("ask",),), True)
        self.assertTrue(one == Betrayal(1, (("ask",),), True))
        self.assertFalse(one != Betrayal(1, (("ask",),), True))
        for other in (Betrayal(2, (("ask",),), True), Betrayal(1, (("has",),), True), Betrayal(1, (("ask",),), False)):
            self.assertFalse(one == other)
            self.assertTrue(one != other)

    def test_objects_of_different_classes_are_not_equal(self):
        some = [Faithful([]), Betrayal(0, (), False), Alike([]), Parts(0, ()), Stack.plain({})]
        for one, other in itertools.permutations(some, 2):
            self.assertFalse(one == other)
            self.assertTrue(one != other)


class BadArgumentsTest(unittest.TestCase):
    def works(self):
        objects = [Faithful([]), Faithful([((), ())]), Betrayal(0, (), True), Betrayal("", ((),), 5)]
        return [entered, faithful, is_faithful, first_betrayal] + [some.shows for some in objects]

    def test_no_stacks(self):
        for wrong in NO_STACKS + [Faithful([]), Betrayal(0, (), True)]:
            for work, layer in itertools.product(self.works(), (PLAIN, None, "x")):
                self.assertEqual(error_of(work, wrong, layer), (BadStack, None), wrong)
            for flag in (True, False, None, 1):
                self.assertEqual(error_of(left, wrong, poured=flag), (BadStack, None), wrong)

    def test_three_layers(self):
        three = Stack((PLAIN, TOLD, HIDING), ({1: 2}, {}, {}))
        for work, layer in itertools.product(self.works(), (PLAIN, None, "x", ())):
            self.assertEqual(error_of(work, three, layer), (BadStack, "LAYERS"))

    def test_no_layers(self):
        for wrong in NO_LAYERS + [(PLAIN,), Stack.of(PLAIN), True]:
            for work in self.works():
                for stack in (Stack.of(PLAIN), Stack((PLAIN, TOLD), ({1: 2}, {}))):
                    self.assertEqual(error_of(work, stack, wrong), (BadLayer, None), wrong)


if __name__ == "__main__":
    unittest.main()

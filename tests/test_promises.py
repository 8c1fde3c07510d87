"""[9] What stacks promise, with what shows it."""

import itertools
import unittest

from layermap.errors import BadPromise, BadStack
from layermap.promises import Broken, Kept, promised, promises
from layermap.stacks import Stack
from reference import ALL_LAYERS, ALONE, CACHE, HIDING, IDLE, NO_STACKS, PLAIN, PROMISES, SHARED, SHUT, THROUGH, TOLD
from reference import WRONG_DEEDS, after, any_layers, chance, columns, keeps, reachable, sampled_stacks

MADE = ("here", "here", "look", ("made", 1))
DOWN_SHUT = ("down", "here", "shut", None)
NO_WORDS = [
    None, 5, True, "", "Written", "OPEN", "open ", " open", "ask", "own", "quiet", b"open", ["open"], ("open",),
    {"open": 1}, [], (), {}, str, 0, "true\n", "keep",
]


def column_after(layers, column, deeds):
    for deed in deeds:
        column = after(layers, column, deed)[1]
    return column


class FoundTest(unittest.TestCase):
    """What is returned, against deeds done by tests/reference.py, also with other values."""

    def check(self, layers, contents, shared, seen):
        stack, words = Stack(layers, contents), PROMISES if shared else PROMISES[:-1]
        deeds = SHARED if shared else ALONE
        wide = deeds + [("write", 7)] + ([("beneath", -2)] if shared else [])
        held, blank = columns(contents), (None,) * len(layers)
        starts = [*held.values(), blank]
        some = reachable(layers, starts, wide)
        facts = promises(stack, shared=shared)
        self.assertEqual(list(facts), words)
        for word in words:
            told = (layers, contents, shared, word)
            right = all(keeps(layers, column, word, (0, 1, 7, -2, 10 ** 30)) for column in some)
            self.assertIs(facts[word], right, told)
            found = promised(stack, word, shared=shared)
            self.assertIs(found.shows(stack, word, shared=shared), True, told)
            if right:
                self.assertIsInstance(found, Kept)
                listed = set(found.columns)
                self.assertTrue(listed.issuperset(starts), told)
                for column in listed:
                    self.assertTrue(keeps(layers, column, word, (0, 1)), told)
                    self.assertTrue(listed.issuperset(after(layers, column, deed)[1] for deed in deeds), told)
            else:
                self.assertIsInstance(found, Broken)
                self.assertIs(type(found.deeds), tuple)
                self.assertTrue(shared or "beneath" not in [deed[0] for deed in found.deeds])
                column = column_after(layers, held.get(found.key, blank), found.deeds)
                self.assertFalse(keeps(layers, column, word, (0, 1)), told)
            seen[word, right] = seen.get((word, right), 0) + 1

    def test_any_stacks(self):
        seen = {}
        for layers, contents in sampled_stacks(40, 500):
            for shared in (True, False):
                self.check(layers, contents, shared, seen)
        # Whatever answers first answers the same again: no stack breaks "steady".
        both = [some for some in itertools.product(PROMISES, (False, True)) if some != ("steady", False)]
        self.assertEqual(sorted(seen), sorted(both))
        self.assertGreater(min(seen.values()), 25)

    def test_all_stacks_of_one_layer(self):
        for layer in ALL_LAYERS:
            for shared in (True, False):
                self.check((layer,), ({},), shared, {})

    def test_stacks_of_any_two_layers(self):
        numbers = chance(41)
        for _ in range(250):
            layers = numbers.choice(ALL_LAYERS), numbers.choice(ALL_LAYERS)
            self.check(layers, ({1: 5, 2: "hidden"}, {1: 6, 3: 0}), numbers.randrange(2) == 0, {})


class EachPromiseTest(unittest.TestCase):
    def kept(self, word, *layers, shared=True):
        stack = Stack.of(*layers)
        found = promised(stack, word, shared=shared)
        self.assertIs(found.shows(stack, word, shared=shared), True)
        self.assertIs(promises(stack, shared=shared)[word], isinstance(found, Kept))
        return isinstance(found, Kept)

    def test_written(self):
        for layers in ((PLAIN,), (CACHE, PLAIN), (THROUGH, PLAIN), (SHUT, PLAIN), (HIDING, TOLD), (IDLE, IDLE, MADE)):
            self.assertTrue(self.kept("written", *layers), layers)
        for layers in ((DOWN_SHUT, PLAIN), (IDLE, DOWN_SHUT, PLAIN), (("down", "hide", "look", None), PLAIN)):
            self.assertFalse(self.kept("written", *layers), layers)

    def test_gone(self):
        for layers in ((PLAIN,), (HIDING, PLAIN), (HIDING,), (("both", "both", "look", None), PLAIN), (SHUT, PLAIN)):
            self.assertTrue(self.kept("gone", *layers), layers)
        both, down = ("both", "here", "look", None), ("down", "down", "keep", None)
        for layers in ((CACHE, PLAIN), (both, PLAIN), (down, PLAIN)):
            self.assertFalse(self.kept("gone", *layers), layers)
        self.assertEqual([self.kept("gone", PLAIN, PLAIN, shared=shared) for shared in (True, False)], [False, True])

    def test_match(self):
        for layers in ((PLAIN,), (CACHE, PLAIN), (SHUT, TOLD), (IDLE, IDLE, IDLE)):
            self.assertTrue(self.kept("match", *layers), layers)
        for layers in ((TOLD,), (MADE,), (PLAIN, TOLD), (TOLD, PLAIN)):
            self.assertFalse(self.kept("match", *layers), layers)

    def test_steady(self):
        for layers in ((PLAIN,), (MADE,), (TOLD, PLAIN), (CACHE, MADE), (MADE, TOLD), (MADE, DOWN_SHUT, CACHE)):
            for shared in (True, False):
                self.assertTrue(self.kept("steady", *layers, shared=shared), layers)

    def test_no_stack_breaks_steady(self):
        numbers = chance(42)
        for count in (1, 2, 3):
            for column in itertools.product((None, "hidden", 0, 1), repeat=count):
                layers = any_layers(numbers, count)
                stack = Stack(layers, tuple({} if held is None else {3: held} for held in column))
                self.assertIs(promises(stack)["steady"], True)
                for deeds in ((), (("ask",),), (("write", 5), ("forget",)), (("beneath", None),)):
                    self.assertIs(Broken(3, deeds).shows(stack, "steady"), False)

    def test_still(self):
        for layers in ((PLAIN,), (TOLD, TOLD), (PLAIN, PLAIN, PLAIN), (SHUT, CACHE)):
            self.assertTrue(self.kept("still", *layers), layers)
        for layers in ((MADE,), (PLAIN, MADE), (PLAIN, CACHE, PLAIN)):
            self.assertFalse(self.kept("still", *layers), layers)
        self.assertEqual([self.kept("still", CACHE, PLAIN, shared=shared) for shared in (True, False)], [False, True])

    def test_true(self):
        three = (HIDING, CACHE, PLAIN), (SHUT, PLAIN, PLAIN)
        for layers in ((PLAIN,), (IDLE, PLAIN), (TOLD,), (THROUGH, PLAIN), *three):
            self.assertTrue(self.kept("true", *layers, shared=False), layers)
        for layers in ((("down", "here", "look", None), PLAIN), (("both", "here", "look", None), PLAIN)):
            self.assertFalse(self.kept("true", *layers, shared=False), layers)
        self.assertEqual([self.kept("true", PLAIN, PLAIN, shared=shared) for shared in (True, False)], [False, True])

    def test_open(self):
        for layers in ((PLAIN,), (IDLE, PLAIN), (HIDING,), (("down", "here", "look", None), PLAIN)):
            self.assertTrue(self.kept("open", *layers), layers)
        for layers in ((PLAIN, PLAIN), (SHUT, PLAIN), (TOLD,), (MADE,), (HIDING, PLAIN)):
            self.assertFalse(self.kept("open", *layers), layers)

    def test_what_a_key_has_may_break_a_promise(self):
        layers = (("here", "here", "look", None), PLAIN)
        empty, held = Stack.of(*layers), Stack(layers, ({}, {4: 8}))
        self.assertEqual([promises(stack, shared=False)["gone"] for stack in (empty, held)], [True, False])
        found = promised(held, "gone", shared=False)
        self.assertEqual((found.key, found.shows(held, "gone", shared=False)), (4, True))
        self.assertIs(found.shows(empty, "gone", shared=False), False)

    def test_a_key_that_no_layer_has_may_break_a_promise(self):
        held = {key: 5 for key in range(-2, 3)}
        stack = Stack((("here", "down", "shut", ("told", 0)), PLAIN), (held, {}))
        broken = promised(stack, "match", shared=False)
        self.assertNotIn(broken.key, held)
        self.assertEqual((broken.deeds, broken.shows(stack, "match", shared=False)), ((), True))
        for key in held:
            self.assertIs(Broken(key, ()).shows(stack, "match", shared=False), False)


class PromisesTest(unittest.TestCase):
    def test_the_order_of_the_words(self):
        for stack in (Stack.of(PLAIN), Stack.of(CACHE, TOLD), Stack.of(MADE, SHUT, DOWN_SHUT)):
            self.assertEqual(list(promises(stack)), PROMISES)
            self.assertEqual(list(promises(stack, shared=True)), PROMISES)
            self.assertEqual(list(promises(stack, shared=False)), PROMISES[:-1])
            for facts in (promises(stack), promises(stack, shared=False)):
                self.assertEqual({type(fact) for fact in facts.values()}, {bool})

    def test_facts(self):
        self.assertEqual(set(promises(Stack.of(PLAIN)).values()), {True})
        cached, told, made = (list(promises(Stack.of(*layers)).values()) for layers in ((CACHE, PLAIN), (TOLD,), (MADE,)))
        self.assertEqual(cached, [True, False, True, True, False, False, False])
        self.assertEqual(told, [True, True, False, True, True, True, False])
        self.assertEqual(made, [True, True, False, True, False, True, False])

    def test_the_dict_is_new(self):
        stack = Stack.of(PLAIN)
        promises(stack).clear()
        self.assertEqual(len(promises(stack)), 7)

    def test_the_stack_is_not_changed(self):
        stack = Stack((CACHE, MADE), ({1: 2, 5: "hidden"}, {3: 4}))
        twin = stack.twin()
        for shared in (True, False):
            for word in promises(stack, shared=shared):
                self.assertTrue(promised(stack, word, shared=shared).shows(stack, word, shared=shared))
        self.assertEqual(stack, twin)

    def test_what_is_returned_is_new(self):
        stack = Stack.of(PLAIN)
        found, again = promised(stack, "gone"), promised(stack, "gone")
        self.assertEqual(found, again)
        found.columns.clear()
        self.assertNotEqual(found, again)
        self.assertTrue(promised(stack, "gone").shows(stack, "gone"))


class KeptShowsTest(unittest.TestCase):
    cache = Stack.of(CACHE, PLAIN)
    columns = [(None, None), (0, None), (1, None)]

    def shown(self, some, word="gone", shared=False):
        return Kept(some).shows(self.cache, word, shared=shared)

    def test_right_columns(self):
        for some in itertools.permutations(self.columns):
            self.assertIs(self.shown(list(some)), True)
        self.assertIs(self.shown(self.columns + self.columns[1:]), True)
        self.assertIs(self.shown(self.columns + [("hidden", None), (10 ** 40, None), (-3, "hidden")]), False)
        self.assertIs(self.shown(self.columns + [("hidden", None), (10 ** 40, None)]), True)
        for word in PROMISES[:-1]:
            self.assertIs(self.shown(self.columns, word), True, word)

    def test_columns_left_out(self):
        for at in range(3):
            self.assertIs(self.shown(self.columns[:at] + self.columns[at + 1:]), False)
        self.assertIs(self.shown([]), False)
        self.assertIs(self.shown([(None, None)]), False)

    def test_a_column_at_which_the_promise_is_not_kept(self):
        for word, wrong in (("gone", (None, 5)), ("gone", (4, 5)), ("still", (None, 5)), ("true", (None, 5))):
            column = column_after((CACHE, PLAIN), wrong, (("ask",),))
            more = [(top, base) for top in (None, 0, 1, 5, column[0]) for base in (None, 5)]
            self.assertIs(self.shown(self.columns + [wrong] + more, word), False)
            self.assertIs(self.shown(self.columns + [wrong] + more, "steady"), True)

    def test_a_column_that_leads_out_of_the_list(self):
        self.assertIs(self.shown(self.columns + [(None, 7)], "steady"), False)
        more = [(top, 7) for top in (0, 1, 7)]
        self.assertIs(self.shown(self.columns + more, "steady"), False)
        self.assertIs(self.shown(self.columns + [(None, 7)] + more, "steady"), True)
        self.assertIs(self.shown(self.columns + [(None, 7)] + more[:2], "steady"), False)

    def test_the_column_of_a_key_is_missing(self):
        held = Stack((CACHE, PLAIN), ({5: 3}, {}))
        self.assertIs(Kept(self.columns).shows(held, "gone", shared=False), False)
        self.assertIs(Kept(self.columns + [(3, None)]).shows(held, "gone", shared=False), True)
        hidden = Stack((CACHE, PLAIN), ({}, {5: "hidden"}))
        self.assertIs(Kept(self.columns).shows(hidden, "gone", shared=False), False)

    def test_the_column_of_a_key_that_no_layer_has_is_missing(self):
        hiding = Stack((HIDING,), ({3: 1},))
        some = [("hidden",), (0,), (1,)]
        self.assertIs(Kept(some).shows(hiding, "gone", shared=False), False)
        self.assertIs(Kept(some + [(None,)]).shows(hiding, "gone", shared=False), True)

    def test_shared(self):
        self.assertIs(self.shown(self.columns, shared=True), False)
        self.assertIs(Kept(self.columns).shows(self.cache, "gone"), False)
        more = [(top, base) for top in (None, 0, 1) for base in (None, 0, 1)]
        self.assertIs(self.shown(more, "written", shared=True), True)
        self.assertIs(Kept(more).shows(self.cache, "steady"), True)
        for at in range(9):
            self.assertIs(self.shown(more[:at] + more[at + 1:], "written", shared=True), False)
        self.assertIs(self.shown(more, "gone", shared=True), False)
        plain = [(None,), (0,), (1,)]
        self.assertIs(Kept(plain).shows(Stack.of(PLAIN), "open"), True)
        self.assertIs(Kept(plain).shows(Stack.of(TOLD), "open"), False)
        self.assertIs(Kept(plain).shows(Stack.of(TOLD), "steady"), True)

    def test_tuples_that_are_no_columns(self):
        for wrong in (
            (), (None,), (None, None, None), (None, "hid"), ("", None), ("none", None), (True, None), (0, False),
            ("0", None),
        ):
            self.assertIs(self.shown(self.columns + [wrong]), False, wrong)
            self.assertIs(self.shown([wrong] + self.columns), False, wrong)

    def test_the_current_attribute_counts(self):
        some = Kept(self.columns)
        some.columns.pop()
        self.assertIs(some.shows(self.cache, "gone", shared=False), False)
        some.columns = list(self.columns)
        self.assertIs(some.shows(self.cache, "gone", shared=False), True)


class BrokenShowsTest(unittest.TestCase):
    cache = Stack((CACHE, PLAIN), ({}, {6: 9, 7: "hidden"}))

    def shown(self, deeds, word="still", key=4, shared=True):
        return Broken(key, deeds).shows(self.cache, word, shared=shared)

    def test_right_deeds(self):
        for key in (4, 0, -8, 10 ** 40):
            self.assertIs(self.shown((("beneath", 1),), key=key), True)
        self.assertIs(self.shown((("beneath", 10 ** 40),)), True)
        self.assertIs(self.shown((("write", 3), ("beneath", -5)), "gone"), True)
        self.assertIs(self.shown((("has",), ("beneath", 0)), "true"), True)
        self.assertIs(self.shown((("write", 5),), "open"), True)

    def test_no_deeds_at_all(self):
        self.assertIs(self.shown(()), False)
        for shared in (True, False):
            self.assertIs(self.shown((), key=6, shared=shared), True)
            self.assertIs(self.shown((), "gone", key=6, shared=shared), True)
            self.assertIs(self.shown((), "written", key=6, shared=shared), False)
            self.assertIs(self.shown((), key=7, shared=shared), False)
        self.assertIs(Broken(3, ()).shows(Stack.of(TOLD), "match"), True)
        self.assertIs(Broken(3, ()).shows(Stack.of(TOLD), "open"), True)

    def test_deeds_after_which_it_is_kept(self):
        for deeds in ((("beneath", 9), ("ask",)), (("write", 1),), (("beneath", 4), ("beneath", None)), (("ask",),)):
            self.assertIs(self.shown(deeds), False, deeds)
        self.assertIs(self.shown((("beneath", 9), ("ask",)), "gone"), True)
        self.assertIs(self.shown((("beneath", 9),), "match"), False)
        self.assertIs(self.shown((("beneath", 9),), "open"), False)

    def test_each_word(self):
        told = Stack((TOLD,), ({1: 3},))
        found = {word: [Broken(1, deeds).shows(told, word) for deeds in ((), (("forget",),))] for word in PROMISES}
        self.assertEqual(found, {
            "written": [False, False], "gone": [False, False], "match": [False, True], "steady": [False, False],
            "still": [False, False], "true": [False, False], "open": [True, True],
        })

    def test_the_values_0_and_1_and_none_count(self):
        # What is found here is 0 or 1, whatever was written: one of both is told right.
        for number in (0, 1):
            hooked = Stack.of(("down", "here", "shut", ("told", number)), PLAIN)
            self.assertIs(Broken(3, ()).shows(hooked, "written", shared=False), True)
            self.assertIs(Broken(3, ()).shows(hooked, "open"), True)
            self.assertEqual([promises(hooked)[word] for word in ("written", "open")], [False, False])
        # Only None is told wrong by these.
        told = Stack.of(("here", "here", "look", ("told", 1)))
        self.assertIs(Broken(3, ()).shows(told, "open"), True)

    def test_beneath_where_shared_is_false(self):
        self.assertIs(self.shown((("beneath", 1),), shared=False), False)
        self.assertIs(self.shown((("beneath", 1),), key=6, shared=False), False)
        self.assertIs(self.shown((("has",),), key=6, shared=False), True)

    def test_tuples_that_are_no_deeds(self):
        for wrong in WRONG_DEEDS:
            for deeds in ((wrong,), (wrong, ("has",)), (("has",), wrong)):
                self.assertIs(self.shown(deeds, key=6), False, wrong)
        self.assertIs(self.shown((("has",),), key=6), True)

    def test_the_key_counts(self):
        self.assertEqual([self.shown((), key=key) for key in (5, 6, 7)], [False, True, False])
        self.assertEqual([Broken(key, ()).shows(Stack.of(TOLD), "match") for key in (1, True, "1", None)], [True] + [False] * 3)

    def test_the_current_attributes_count(self):
        some = Broken(5, ())
        some.key = 6
        self.assertIs(some.shows(self.cache, "still"), True)
        some.deeds = (("ask",),)
        self.assertIs(some.shows(self.cache, "still"), False)


class ObjectsTest(unittest.TestCase):
    columns = [(None, 1), ("hidden", 2)]

    def test_attributes_len_and_iteration(self):
        some = Kept(self.columns)
        self.assertEqual((some.columns, len(some)), (self.columns, 2))
        self.assertEqual((list(some), list(some)), (self.columns, self.columns))
        self.assertEqual((len(Kept([])), list(Kept([]))), (0, []))
        broken = Broken(-4, (("write", 5), ("ask",)))
        self.assertEqual((broken.key, broken.deeds, len(broken)), (-4, (("write", 5), ("ask",)), 2))
        self.assertEqual((Broken(0, ()).deeds, len(Broken(0, ()))), ((), 0))

    def test_the_list_is_copied(self):
        some = list(self.columns)
        kept = Kept(some)
        some.append(())
        self.assertEqual(kept.columns, self.columns)
        kept.columns.clear()
        self.assertEqual(len(some), 3)

    def test_equal_are_those_with_equal_attributes(self):
        self.assertTrue(Kept(self.columns) == Kept(list(self.columns)))
        self.assertFalse(Kept(self.columns) != Kept(list(self.columns)))
        self.assertTrue(Kept(self.columns) != Kept(self.columns[::-1]))
        self.assertFalse(Kept(self.columns) == Kept(self.columns[:1]))
        self.assertTrue(Broken(1, (("ask",),)) == Broken(1, (("ask",),)))
        self.assertFalse(Broken(1, (("ask",),)) != Broken(1, (("ask",),)))
        for other in (Broken(2, (("ask",),)), Broken(1, (("has",),)), Broken(1, ())):
            self.assertFalse(Broken(1, (("ask",),)) == other)
            self.assertTrue(Broken(1, (("ask",),)) != other)

    def test_objects_of_different_classes_are_not_equal(self):
        for one, other in itertools.permutations([Kept([]), Broken(0, ()), Stack.plain({})], 2):
            self.assertFalse(one == other)
            self.assertTrue(one != other)


class BadArgumentsTest(unittest.TestCase):
    good = Stack.of(PLAIN)

    def works(self):
        objects = [Kept([(None,), (0,), (1,)]), Kept([()]), Broken(0, ()), Broken("", ((),))]
        return [promised] + [some.shows for some in objects]

    def test_no_stacks(self):
        for wrong in NO_STACKS + [Kept([]), Broken(0, ())]:
            for shared in (True, False):
                for work, word in itertools.product(self.works(), ("gone", "open", None, "x")):
                    with self.assertRaises(BadStack) as caught:
                        work(wrong, word, shared=shared)
                    self.assertIsNone(caught.exception.part)
                with self.assertRaises(BadStack) as caught:
                    promises(wrong, shared=shared)
                self.assertIsNone(caught.exception.part)

    def test_no_promises(self):
        for wrong in NO_WORDS:
            for work, shared in itertools.product(self.works(), (True, False)):
                with self.assertRaises(BadPromise) as caught:
                    work(self.good, wrong, shared=shared)
                self.assertIs(type(caught.exception), BadPromise)

    def test_open_is_a_promise_only_if_shared_is_true(self):
        for work in self.works():
            with self.assertRaises(BadPromise):
                work(self.good, "open", shared=False)
            work(self.good, "open")
            work(self.good, "open", shared=True)

    def test_shared_is_keyword_only(self):
        for work in self.works():
            with self.assertRaises(TypeError):
                work(self.good, "gone", True)
        with self.assertRaises(TypeError):
            promises(self.good, True)

    def test_shared_is_true_if_it_is_left_out(self):
        stack = Stack.of(CACHE, PLAIN)
        self.assertEqual(promises(stack), promises(stack, shared=True))
        self.assertIsInstance(promised(stack, "still"), Broken)
        self.assertIsInstance(promised(stack, "still", shared=False), Kept)


if __name__ == "__main__":
    unittest.main()

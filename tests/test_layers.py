"""[2] What is a layer, a tuple of layers, and contents; what is none."""

import unittest

from layermap.errors import BadStack
from layermap.stacks import Stack
from reference import ALL_LAYERS, PLAIN

NO_LAYERS = [
    None, 5, "here", [], {}, ("here", "here", "look"), ("here", "here", "look", None, None), (),
    ["here", "here", "look", None], "hhln",
    ("hide", "here", "look", None), ("up", "here", "look", None), (None, "here", "look", None),
    (0, "here", "look", None), (["here"], "here", "look", None), ("Here", "here", "look", None),
    ("here", "gone", "look", None), ("here", None, "look", None), ("here", ["hide"], "look", None),
    ("here", {}, "look", None), ("here", "keep", "look", None),
    ("here", "here", "here", None), ("here", "here", None, None), ("here", "here", 1, None),
    ("here", "here", ["look"], None), ("here", "here", "", None),
    ("here", "here", "look", 0), ("here", "here", "look", False), ("here", "here", "look", "told"),
    ("here", "here", "look", ()), ("here", "here", "look", ("told",)), ("here", "here", "look", ("told", 2)),
    ("here", "here", "look", ("told", -1)), ("here", "here", "look", ("told", True)),
    ("here", "here", "look", ("made", False)), ("here", "here", "look", ("told", "0")),
    ("here", "here", "look", ("told", None)), ("here", "here", "look", ("said", 0)),
    ("here", "here", "look", (0, "told")), ("here", "here", "look", ["told", 0]),
    ("here", "here", "look", ("told", 0, 0)), ("here", "here", "look", (["told"], 0)),
    ("here", "here", "look", ("told", [0])),
]

NO_CONTENTS = [
    None, 5, "", [], [(1, 2)], (), ((1, 2),), {"a": 1}, {None: 1}, {True: 1}, {(1,): 1}, {b"1": 1},
    {1: None}, {1: "a"}, {1: "HIDDEN"}, {1: True}, {1: False}, {1: [2]}, {1: (2,)}, {1: {}}, {2: 2, 1: True},
    {"hidden": 1}, {False: "hidden"},
]


def part_of(made):
    try:
        made()
    except BadStack as error:
        return error.part
    return "nothing raised"


class GoodLayersTest(unittest.TestCase):
    def test_every_word_and_hook_in_one_layer(self):
        self.assertEqual(len(ALL_LAYERS), 180)
        for layer in ALL_LAYERS:
            self.assertEqual(Stack((layer,)).layers, (layer,))
            self.assertEqual(Stack.of(layer).layers, (layer,))

    def test_every_layer_at_every_place_of_two_and_three(self):
        for layer in ALL_LAYERS:
            for layers in (
                (layer, PLAIN), (PLAIN, layer), (layer, PLAIN, PLAIN), (PLAIN, layer, PLAIN), (PLAIN, PLAIN, layer),
            ):
                self.assertEqual(Stack(layers).layers, layers)
                self.assertEqual(Stack.of(*layers), Stack(layers))

    def test_layers_have_nothing_without_contents(self):
        stack = Stack((PLAIN, PLAIN))
        self.assertEqual((stack.visible(), len(stack), stack.column(0)), ([], 0, (None, None)))
        self.assertEqual(stack, Stack((PLAIN, PLAIN), ({}, {})))
        self.assertEqual(stack, Stack((PLAIN, PLAIN), None))

    def test_contents_with_values_and_hidden_keys(self):
        stack = Stack((PLAIN, PLAIN, PLAIN), ({1: "hidden", -2: 10 ** 40}, {}, {1: 5, 10 ** 30: -7}))
        self.assertEqual(stack.column(1), ("hidden", None, 5))
        self.assertEqual(stack.column(-2), (10 ** 40, None, None))
        self.assertEqual(stack.column(10 ** 30), (None, None, -7))
        self.assertEqual(stack.column(0), (None, None, None))

    def test_plain_has_one_plain_layer(self):
        stack = Stack.plain({3: 4, 1: "hidden"})
        self.assertEqual(stack.layers, (("here", "here", "look", None),))
        self.assertEqual((stack.column(3), stack.column(1), stack.column(2)), ((4,), ("hidden",), (None,)))
        self.assertEqual(Stack.plain({}), Stack.of(PLAIN))


class BadLayersTest(unittest.TestCase):
    def test_what_is_no_tuple_of_layers(self):
        for layers in (None, 5, "here", [], [PLAIN], {0: PLAIN}, (), (PLAIN,) * 4, PLAIN, True, b"", Stack.of(PLAIN)):
            self.assertEqual(part_of(lambda: Stack(layers)), "LAYERS", layers)

    def test_what_is_no_layer_at_any_place(self):
        for wrong in NO_LAYERS:
            for layers in ((wrong,), (wrong, PLAIN), (PLAIN, wrong), (PLAIN, wrong, PLAIN), (PLAIN, PLAIN, wrong)):
                self.assertEqual(part_of(lambda: Stack(layers)), "LAYERS", layers)
                self.assertEqual(part_of(lambda: Stack.of(*layers)), "LAYERS", layers)

    def test_of_none_and_of_too_many(self):
        self.assertEqual(part_of(Stack.of), "LAYERS")
        self.assertEqual(part_of(lambda: Stack.of(PLAIN, PLAIN, PLAIN, PLAIN)), "LAYERS")
        self.assertEqual(part_of(lambda: Stack.of((PLAIN,))), "LAYERS")


class BadContentsTest(unittest.TestCase):
    def test_what_is_no_content_at_any_place(self):
        for wrong in NO_CONTENTS:
            self.assertEqual(part_of(lambda: Stack((PLAIN,), (wrong,))), "CONTENTS", wrong)
            self.assertEqual(part_of(lambda: Stack((PLAIN, PLAIN), ({}, wrong))), "CONTENTS", wrong)
            self.assertEqual(part_of(lambda: Stack((PLAIN, PLAIN), (wrong, {}))), "CONTENTS", wrong)
            self.assertEqual(part_of(lambda: Stack.plain(wrong)), "CONTENTS", wrong)

    def test_what_is_no_tuple_of_as_many(self):
        for wrong in ({}, {1: 2}, [{}], 5, "", (), ({}, {}), False):
            self.assertEqual(part_of(lambda: Stack((PLAIN,), wrong)), "CONTENTS", wrong)
        for wrong in ((), ({},), ({}, {}, {}), [{}, {}]):
            self.assertEqual(part_of(lambda: Stack((PLAIN, PLAIN), wrong)), "CONTENTS", wrong)

    def test_layers_come_ahead_of_contents(self):
        self.assertEqual(part_of(lambda: Stack(("x",), ({True: 1},))), "LAYERS")
        self.assertEqual(part_of(lambda: Stack((), 5)), "LAYERS")
        self.assertEqual(part_of(lambda: Stack([PLAIN], ({},))), "LAYERS")


class IndependenceTest(unittest.TestCase):
    def test_a_dict_that_a_stack_was_made_of_is_neither_changed_nor_kept(self):
        top, base = {1: 2}, {1: 3, 4: "hidden"}
        stack = Stack((PLAIN, PLAIN), (top, base))
        stack.do(1, ("forget",), ("forget",), ("write", 8), ("beneath", None))
        self.assertEqual((top, base), ({1: 2}, {1: 3, 4: "hidden"}))
        top[5], base[1] = 6, 7
        del base[4]
        self.assertEqual((stack.column(1), stack.column(4), stack.column(5)), ((8, None), (None, "hidden"), (None, None)))

    def test_plain_keeps_no_dict(self):
        pairs = {1: 2}
        stack = Stack.plain(pairs)
        stack[3] = 4
        self.assertEqual(pairs, {1: 2})
        pairs[5] = 6
        self.assertEqual(stack.visible(), [1, 3])


if __name__ == "__main__":
    unittest.main()

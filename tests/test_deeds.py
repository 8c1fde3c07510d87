"""[3], [4] Each deed with each word of the settings, and the columns after it."""

import itertools
import unittest

from layermap.stacks import Stack
from reference import ALL_LAYERS, FORGETS, HOOKS, PLAIN, SHARED, after, answers, any_layers, chance

HELD = (None, "hidden", 0, 7)
DEEDS = SHARED + [("write", -9), ("write", 10 ** 50), ("beneath", -(10 ** 50))]


def one_key(layers, column, key=1):
    contents = tuple({} if held is None else {key: held} for held in column)
    return Stack(tuple(layers), contents)


def layer(write="here", forget="here", read="look", hook=None):
    return (write, forget, read, hook)


class DeedTest(unittest.TestCase):
    def check(self, layers, column, deed, answer, then):
        stack = one_key(layers, column)
        found = stack.do(1, deed)
        self.assertEqual((found, stack.column(1)), ([answer], then), (layers, column, deed))
        self.assertEqual(type(found[0]), type(answer))


class AskTest(DeedTest):
    def test_one_layer(self):
        self.check([layer()], (5,), ("ask",), 5, (5,))
        self.check([layer()], (0,), ("ask",), 0, (0,))
        self.check([layer()], (None,), ("ask",), None, (None,))
        self.check([layer()], ("hidden",), ("ask",), None, ("hidden",))
        for number in (0, 1):
            told, made = layer(hook=("told", number)), layer(hook=("made", number))
            self.check([told], (5,), ("ask",), 5, (5,))
            self.check([told], (None,), ("ask",), number, (None,))
            self.check([told], ("hidden",), ("ask",), number, ("hidden",))
            self.check([made], (5,), ("ask",), 5, (5,))
            self.check([made], (None,), ("ask",), number, (number,))
            self.check([made], ("hidden",), ("ask",), number, (number,))

    def test_a_base_asks_nobody_whatever_its_read(self):
        for read in ("look", "keep", "shut"):
            self.check([layer(read=read)], (4,), ("ask",), 4, (4,))
            self.check([layer(read=read)], (None,), ("ask",), None, (None,))

    def test_passes_on(self):
        self.check([layer(), PLAIN], (None, 6), ("ask",), 6, (None, 6))
        self.check([layer(), PLAIN], (3, 6), ("ask",), 3, (3, 6))
        self.check([layer(), PLAIN], (0, 6), ("ask",), 0, (0, 6))
        self.check([layer(), layer(), PLAIN], (None, None, 0), ("ask",), 0, (None, None, 0))

    def test_keeps_what_is_found(self):
        keep = layer(read="keep")
        self.check([keep, PLAIN], (None, 6), ("ask",), 6, (6, 6))
        self.check([keep, PLAIN], (None, 0), ("ask",), 0, (0, 0))
        self.check([keep, PLAIN], (None, None), ("ask",), None, (None, None))
        self.check([keep, keep, PLAIN], (None, None, -2), ("ask",), -2, (-2, -2, -2))
        self.check([keep, layer(), PLAIN], (None, None, 8), ("ask",), 8, (8, None, 8))
        self.check([layer(), keep, PLAIN], (None, None, 8), ("ask",), 8, (None, 8, 8))

    def test_keeping_does_not_write(self):
        self.check([layer(write="down", read="keep"), PLAIN], (None, 6), ("ask",), 6, (6, 6))
        self.check([layer(write="both", read="keep"), layer(), PLAIN], (None, None, 6), ("ask",), 6, (6, None, 6))

    def test_is_shut_out(self):
        shut = layer(read="shut")
        self.check([shut, PLAIN], (None, 6), ("ask",), None, (None, 6))
        self.check([shut, PLAIN], (3, 6), ("ask",), 3, (3, 6))
        self.check([layer(read="shut", hook=("told", 1)), PLAIN], (None, 6), ("ask",), 1, (None, 6))
        self.check([layer(), shut, PLAIN], (None, None, 6), ("ask",), None, (None, None, 6))

    def test_meets_a_hidden_key(self):
        self.check([layer(), PLAIN], ("hidden", 6), ("ask",), None, ("hidden", 6))
        self.check([layer(read="keep"), PLAIN], ("hidden", 6), ("ask",), None, ("hidden", 6))
        self.check([layer(hook=("told", 0)), PLAIN], ("hidden", 6), ("ask",), 0, ("hidden", 6))
        self.check([layer(hook=("made", 0)), PLAIN], ("hidden", 6), ("ask",), 0, (0, 6))
        self.check([layer(), layer(), PLAIN], (None, "hidden", 6), ("ask",), None, (None, "hidden", 6))

    def test_hooks_of_a_layer_below(self):
        told, made = layer(hook=("told", 1)), layer(hook=("made", 1))
        self.check([layer(), told], (None, None), ("ask",), 1, (None, None))
        self.check([layer(read="keep"), told], (None, None), ("ask",), 1, (1, None))
        self.check([layer(read="keep"), made], (None, None), ("ask",), 1, (1, 1))
        self.check([layer(), made, PLAIN], (None, None, None), ("ask",), 1, (None, 1, None))
        self.check([layer(), made], (None, "hidden"), ("ask",), 1, (None, 1))

    def test_the_answer_of_a_layer_below_goes_ahead_of_a_hook(self):
        told = layer(hook=("told", 1))
        self.check([told, PLAIN], (None, 6), ("ask",), 6, (None, 6))
        self.check([told, layer(hook=("told", 0))], (None, None), ("ask",), 0, (None, None))
        self.check([told, PLAIN], (None, None), ("ask",), 1, (None, None))

    def test_made_is_written_from_its_layer_on(self):
        hook = ("made", 1)
        self.check([layer("down", hook=hook), PLAIN], (None, None), ("ask",), 1, (None, 1))
        self.check([layer("both", hook=hook), PLAIN], (None, None), ("ask",), 1, (1, 1))
        self.check([layer("down", read="shut", hook=hook), PLAIN], ("hidden", 6), ("ask",), 1, ("hidden", 1))
        self.check([layer("down"), layer("both", hook=hook), PLAIN], (None,) * 3, ("ask",), 1, (None, 1, 1))
        self.check([layer("down", hook=hook)], (None,), ("ask",), 1, (1,))


class HasTest(DeedTest):
    def test_has(self):
        self.check([layer()], (0,), ("has",), True, (0,))
        self.check([layer()], (None,), ("has",), False, (None,))
        self.check([layer()], ("hidden",), ("has",), False, ("hidden",))
        self.check([layer(), PLAIN], (None, 6), ("has",), True, (None, 6))
        self.check([layer(), PLAIN], ("hidden", 6), ("has",), False, ("hidden", 6))
        self.check([layer(read="shut"), PLAIN], (None, 6), ("has",), False, (None, 6))
        self.check([layer(read="shut"), PLAIN], (3, 6), ("has",), True, (3, 6))
        self.check([layer(read="keep"), PLAIN], (None, 6), ("has",), True, (None, 6))

    def test_hooks_are_not_seen(self):
        for hook in HOOKS[1:]:
            self.check([layer(hook=hook)], (None,), ("has",), False, (None,))
            self.check([PLAIN, layer(hook=hook)], (None, None), ("has",), False, (None, None))


class WriteTest(DeedTest):
    def test_words(self):
        for old in HELD:
            self.check([layer("here"), PLAIN], (old, 6), ("write", 5), None, (5, 6))
            self.check([layer("down"), PLAIN], (old, 6), ("write", 5), None, (old, 5))
            self.check([layer("both"), PLAIN], (old, 6), ("write", 5), None, (5, 5))

    def test_each_word_is_as_here_in_the_base(self):
        for word in ("here", "down", "both"):
            for old in HELD:
                self.check([layer(word)], (old,), ("write", -5), None, (-5,))

    def test_three_layers(self):
        self.check([layer("down"), layer("here"), PLAIN], (1, 2, 3), ("write", 5), None, (1, 5, 3))
        self.check([layer("down"), layer("down"), PLAIN], (1, 2, 3), ("write", 5), None, (1, 2, 5))
        self.check([layer("both"), layer("down"), PLAIN], (1, 2, 3), ("write", 5), None, (5, 2, 5))
        self.check([layer("both"), layer("both"), PLAIN], (1, 2, 3), ("write", 5), None, (5, 5, 5))
        self.check([layer("both"), layer("here"), PLAIN], (1, 2, 3), ("write", 5), None, (5, 5, 3))

    def test_values_of_any_size(self):
        for value in (0, -1, 10 ** 100, -(10 ** 100)):
            self.check([layer("both"), PLAIN], (None, None), ("write", value), None, (value, value))


class ForgetTest(DeedTest):
    def test_here(self):
        here = layer(forget="here")
        self.check([here, PLAIN], (5, 6), ("forget",), True, (None, 6))
        self.check([here, PLAIN], (None, 6), ("forget",), False, (None, 6))
        self.check([here, PLAIN], ("hidden", 6), ("forget",), False, ("hidden", 6))

    def test_hide(self):
        hide = layer(forget="hide")
        self.check([hide, PLAIN], (5, 6), ("forget",), True, ("hidden", 6))
        self.check([hide, PLAIN], (None, 6), ("forget",), True, ("hidden", 6))
        self.check([hide, PLAIN], (None, None), ("forget",), False, (None, None))
        self.check([hide, PLAIN], ("hidden", 6), ("forget",), False, ("hidden", 6))
        self.check([layer(forget="hide", read="shut"), PLAIN], (None, 6), ("forget",), False, (None, 6))
        self.check([hide, PLAIN, PLAIN], (None, None, 6), ("forget",), True, ("hidden", None, 6))
        self.check([hide, layer(read="shut"), PLAIN], (None, None, 6), ("forget",), False, (None, None, 6))

    def test_down(self):
        down = layer(forget="down")
        self.check([down, PLAIN], (5, 6), ("forget",), True, (5, None))
        self.check([down, PLAIN], (5, None), ("forget",), False, (5, None))
        self.check([down, layer(forget="hide")], ("hidden", 6), ("forget",), True, ("hidden", "hidden"))
        self.check([down, down, PLAIN], (5, 6, 7), ("forget",), True, (5, 6, None))

    def test_both(self):
        both = layer(forget="both")
        self.check([both, PLAIN], (5, 6), ("forget",), True, (None, None))
        self.check([both, PLAIN], (5, None), ("forget",), True, (None, None))
        self.check([both, PLAIN], (None, 6), ("forget",), True, (None, None))
        self.check([both, PLAIN], (None, None), ("forget",), False, (None, None))
        self.check([both, PLAIN], ("hidden", None), ("forget",), False, ("hidden", None))
        self.check([both, PLAIN], ("hidden", 6), ("forget",), True, ("hidden", None))
        self.check([both, layer(forget="hide"), PLAIN], (5, None, 6), ("forget",), True, (None, "hidden", 6))
        self.check([both, both, PLAIN], (5, 6, 7), ("forget",), True, (None, None, None))

    def test_base(self):
        for word in ("here", "down", "both"):
            self.check([layer(forget=word)], (5,), ("forget",), True, (None,))
            self.check([layer(forget=word)], (None,), ("forget",), False, (None,))
            self.check([layer(forget=word)], ("hidden",), ("forget",), False, ("hidden",))
        self.check([layer(forget="hide")], (5,), ("forget",), True, ("hidden",))
        self.check([layer(forget="hide")], (None,), ("forget",), False, (None,))
        self.check([layer(forget="hide")], ("hidden",), ("forget",), False, ("hidden",))


class BeneathTest(DeedTest):
    def test_the_base_has_it_whatever_its_settings(self):
        for base in ALL_LAYERS:
            self.check([base], (5,), ("beneath", 8), None, (8,))
            self.check([base], ("hidden",), ("beneath", 8), None, (8,))
            self.check([base], (5,), ("beneath", None), None, (None,))
            self.check([base], ("hidden",), ("beneath", None), None, (None,))

    def test_the_layers_above_stay(self):
        self.check([layer("both", "both", "keep"), PLAIN], (5, 6), ("beneath", 8), None, (5, 8))
        self.check([PLAIN, PLAIN, PLAIN], ("hidden", None, 6), ("beneath", None), None, ("hidden", None, None))


class EverySettingTest(unittest.TestCase):
    """All deeds against the second way of doing them, in tests/reference.py."""

    def check(self, layers, column):
        for deed in DEEDS:
            stack = one_key(layers, column)
            answer, then = after(layers, column, deed)
            found = stack.do(1, deed)
            if (found, stack.column(1)) != ([answer], then) or type(found[0]) is not type(answer):
                self.fail((layers, column, deed, found, stack.column(1), answer, then))

    def test_one_layer(self):
        for some in ALL_LAYERS:
            for held in HELD:
                self.check((some,), (held,))

    def test_two_layers(self):
        words = itertools.cycle(itertools.product(("here", "down", "both"), ("look", "keep", "shut")))
        for some in ALL_LAYERS:
            for forget, hook in itertools.product(FORGETS, HOOKS):
                write, read = next(words)
                for column in itertools.product(HELD, (None, "hidden", 3)):
                    self.check((some, (write, forget, read, hook)), column)

    def test_three_layers(self):
        numbers = chance(3)
        for _ in range(6000):
            column = tuple(numbers.choice((None, "hidden", 0, 7, 8)) for _ in range(3))
            self.check(any_layers(numbers, 3), column)

    def test_many_deeds_one_after_the_other(self):
        numbers = chance(4)
        for _ in range(3000):
            count = numbers.randrange(1, 4)
            layers, column = any_layers(numbers, count), tuple(numbers.choice(HELD) for _ in range(count))
            deeds = [numbers.choice(DEEDS) for _ in range(8)]
            found = one_key(layers, column).do(1, *deeds)
            self.assertEqual(found, answers(layers, column, deeds), (layers, column, deeds))


class ColumnsTest(unittest.TestCase):
    def test_the_column_of_a_key_before_and_after_deeds(self):
        stack = Stack((layer("both", "hide"), PLAIN), ({}, {-4: 9}))
        columns = [stack.column(-4)]
        for deed in (("forget",), ("write", 10 ** 30), ("forget",), ("beneath", None), ("ask",), ("write", -1)):
            stack.do(-4, deed)
            columns.append(stack.column(-4))
        self.assertEqual(columns, [
            (None, 9), ("hidden", 9), (10 ** 30, 10 ** 30), ("hidden", 10 ** 30), ("hidden", None), ("hidden", None),
            (-1, -1),
        ])

    def test_a_deed_changes_only_the_column_of_its_key(self):
        numbers = chance(5)
        held = {-(10 ** 40): (None, 7), -1: (5, None), 0: ("hidden", 3), 1: (5, 6), 10 ** 40: (None, "hidden")}
        contents = tuple({key: column[at] for key, column in held.items() if column[at] is not None} for at in (0, 1))
        for _ in range(300):
            layers = any_layers(numbers, 2)
            for key in [*held, 77]:
                for deed in DEEDS:
                    stack = Stack(layers, contents)
                    stack.do(key, deed)
                    for other, column in held.items():
                        if other != key:
                            self.assertEqual(stack.column(other), column)
                    self.assertEqual(stack.column(key), after(layers, held.get(key, (None, None)), deed)[1])


if __name__ == "__main__":
    unittest.main()

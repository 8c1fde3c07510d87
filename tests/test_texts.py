"""[11] Stacks that are written as texts, and texts that are read."""

import itertools
import unittest

from layermap.errors import BadStack, BadText
from layermap.stacks import Stack
from layermap.texts import read_stack, stack_text
from reference import ALL_LAYERS, HIDING, NO_STACKS, PLAIN, TOLD, any_contents, any_layers, chance

BIG = 10 ** 3999 + 7
PLAIN_LINE = "layer here here look\n"
GOOD = "layer here hide look\nlayer both here keep told 1\nat -2 - 7\nat 5 hidden 3\n"


def written(layers, contents):
    """A stack's text, written in another way than the package does."""
    text = ""
    for write, forget, read, hook in layers:
        text += f"layer {write} {forget} {read}" + (f" {hook[0]} {hook[1]}" if hook else "") + "\n"
    for key in sorted({key for content in contents for key in content}):
        text += f"at {key}" + "".join(f" {content.get(key, '-')}" for content in contents) + "\n"
    return text


class WrittenTest(unittest.TestCase):
    def check(self, layers, contents):
        stack = Stack(layers, contents)
        twin = stack.twin()
        text = stack_text(stack)
        self.assertEqual(text, written(layers, contents))
        read = read_stack(text)
        self.assertIsInstance(read, Stack)
        self.assertEqual((read, stack), (stack, twin))
        self.assertEqual(read.layers, layers)
        self.assertEqual(stack_text(read), text)

    def test_all_settings_and_hooks(self):
        for layer in ALL_LAYERS:
            self.check((layer,), ({3: 4},))
            self.check((layer, PLAIN), ({}, {}))
            self.check((PLAIN, layer), ({1: "hidden"}, {1: 2}))
            self.check((TOLD, layer, HIDING), ({5: 6}, {-5: "hidden"}, {5: 7}))

    def test_any_stacks(self):
        numbers = chance(70)
        for _ in range(400):
            many = numbers.randrange(1, 4)
            self.check(any_layers(numbers, many), any_contents(numbers, many, 8))

    def test_numbers_of_any_size(self):
        for number in (0, 1, -1, 9, 10, -10, 100, 10 ** 20, -(10 ** 40), BIG, -BIG):
            self.check((PLAIN,), ({number: number},))
            self.check((PLAIN, TOLD), ({number: "hidden", -7: number}, {-7: -number, 8: number}))

    def test_keys_ascend_as_numbers(self):
        some = [10, 9, -10, -9, 0, 100, -100, 2, -1, 10 ** 30, -(10 ** 30)]
        stack = Stack.plain({key: 1 for key in some})
        lines = stack_text(stack).split("\n")[1:-1]
        self.assertEqual([int(line.split(" ")[1]) for line in lines], sorted(some))

    def test_texts_as_they_are(self):
        self.assertEqual(stack_text(Stack.plain({})), PLAIN_LINE)
        self.assertEqual(stack_text(Stack.plain({3: -4, 1: "hidden"})), PLAIN_LINE + "at 1 hidden\nat 3 -4\n")
        layers = ("down", "both", "shut", ("made", 0)), ("both", "down", "keep", ("told", 1)), ("here", "hide", "look", None)
        text = "layer down both shut made 0\nlayer both down keep told 1\nlayer here hide look\nat -1 - hidden 0\n"
        self.assertEqual(stack_text(Stack(layers, ({}, {-1: "hidden"}, {-1: 0}))), text)
        self.assertEqual(read_stack(text), Stack(layers, ({}, {-1: "hidden"}, {-1: 0})))

    def test_keys_that_no_layer_has_any_more_are_not_written(self):
        stack = Stack.plain({1: 2, 3: 4})
        stack.forget(1)
        stack.beneath(3, None)
        self.assertEqual(stack_text(stack), PLAIN_LINE)
        stack = Stack.of(PLAIN, HIDING)
        stack.do(4, ("beneath", 1), ("forget",))
        stack.column(9)
        self.assertEqual(stack_text(stack), PLAIN_LINE + "layer here hide look\nat 4 - 1\n")

    def test_a_key_that_is_only_hidden_is_written(self):
        stack = Stack((HIDING,), ({2: 3},))
        stack.forget(2)
        self.assertEqual(stack_text(stack), "layer here hide look\nat 2 hidden\n")
        self.assertEqual(read_stack(stack_text(stack)).column(2), ("hidden",))

    def test_what_is_read_is_independent(self):
        one, other = read_stack(GOOD), read_stack(GOOD)
        one[5] = 8
        one.beneath(-2, None)
        self.assertEqual((stack_text(other), other.column(5)), (GOOD, ("hidden", 3)))

    def test_no_stacks(self):
        for wrong in NO_STACKS + [GOOD]:
            with self.assertRaises(BadStack) as caught:
                stack_text(wrong)
            self.assertIsNone(caught.exception.part)


class ReadTest(unittest.TestCase):
    def check(self, text, row):
        with self.assertRaises(BadText, msg=text) as caught:
            read_stack(text)
        self.assertEqual(caught.exception.row, row, text)

    def test_what_is_no_string(self):
        for wrong in (None, 5, True, b"", GOOD.encode(), [], [GOOD], (GOOD,), {}, Stack.plain({}), str, object()):
            self.check(wrong, 0)

    def test_no_layer(self):
        for text in ("", "\n", "x", "layer here here look", "at 1 2\n", "at 1 -\n", " \n", "\n" + PLAIN_LINE, "\n\n\n"):
            self.check(text, 0)

    def test_one_to_three_layers_and_a_fourth(self):
        for count in (1, 2, 3):
            self.assertEqual(read_stack(PLAIN_LINE * count), Stack((PLAIN,) * count))
        for count in (4, 5, 9):
            self.check(PLAIN_LINE * count, 3)
        self.check(PLAIN_LINE * 4 + "at 1 1 1 1 1\n", 3)
        self.check(PLAIN_LINE * 4 + "at 1 1 1 1\n", 3)

    def test_a_line_with_a_key_ahead_of_the_layers_or_between_them(self):
        self.check("at 1 2\n" + PLAIN_LINE, 0)
        self.check(PLAIN_LINE + "at 1 2\n" + PLAIN_LINE, 2)
        self.check(PLAIN_LINE + "at 1 2\nat 2 2\n" + PLAIN_LINE + "at 3 3\n", 3)
        self.check(PLAIN_LINE * 2 + "at 1 2 -\n" + PLAIN_LINE, 3)

    def test_layers_that_are_none(self):
        wrong = [
            "", "layer", "layer here", "layer here here", "layer here here look told", "layer here here look told 0 0",
            "layer here here look None", "layer here here look -", "layer here here look 0", "layer here here look - -",
            "layer here here look here look", "layer hide here look", "layer here keep look", "layer here here hide",
            "layer here here here", "layer - here look", "Layer here here look", "layers here here look",
            "here here look", "layer here here look said 0", "layer here here look told 2", "layer here here look told -1",
            "layer here here look told +1", "layer here here look told 01", "layer here here look told 00",
            "layer here here look told -0", "layer here here look made", "layer here here look made x",
            "layer here here look made ", "layer here here look ", " layer here here look", "layer  here here look",
            "layer here  here look", "layer here here look  told 0", "layer here here look told  0",
            "layer here here look told 0 ", "layer here here look told 0.", "layer here here look told True",
            "layer here here look told None", "layer HERE here look", "layer here here LOOK", "layer,here,here,look",
            "layer\there here look", "layer here here\tlook", "layer here here look\r", "layer here here look\t",
            "layer here here look\x0b", "layer here here look\x0c", "layer here here look\x00", "layer here here look\u2028",
            "layer here here look\x85", "layer here\u00a0here look", "layer here here look told \u0661",
            "layer here here look told \u00b9", "\ufefflayer here here look", "layer ('here', 'here', 'look', None)",
        ]
        for line in wrong:
            self.check(line + "\n", 0)
            self.check(line + "\n" + PLAIN_LINE, 0)
            self.check(PLAIN_LINE + line + "\n", 1)
            self.check(PLAIN_LINE * 2 + line + "\nat 3 4 5 6\n", 2)
            self.check(PLAIN_LINE * 2 + line + "\nat 3 4 5\n", 2)
        for write, forget, read, hook in itertools.product(("here", "hide"), ("keep", "down"), ("look", "both"), ("", " told 3")):
            if (write, forget, read, hook) != ("here", "down", "look", ""):
                self.check(f"layer {write} {forget} {read}{hook}\n", 0)

    def test_lines_with_keys_that_are_none(self):
        wrong = [
            "", "at", "at 3", "at 3 4 5 6", "at 3 4", "at 3 - -", "at 3 -", "at - 4 5", "at hidden 4 5", "at x 4 5",
            "At 3 4 5", "3 4 5", "at 3, 4, 5", "at 3 4 x", "at 3 Hidden 5", "at 3 hide 5", "at 3 None 5", "at 3 4 --",
            "at 3 -- 5", "at 3 4 -x", "at 03 4 5", "at 3 04 5", "at 3 4 05", "at 3 4 00", "at 00 4 5", "at -0 4 5",
            "at 3 -0 5", "at 3 4 -0", "at -03 4 5", "at 3 4 -05", "at +3 4 5", "at 3 +4 5", "at 3 4 +0", "at 3 4 -+5",
            "at --3 4 5", "at 3 --4 5", "at 3 4 5-", "at 3- 4 5", "at 1_0 4 5", "at 3 4 1_0", "at 3 4 1e3", "at 3 4 5.0",
            "at 3 4 0x5", "at 3 True 5", "at  3 4 5", "at 3  4 5", "at 3 4  5", " at 3 4 5", "at 3 4 5 ", "at 3 4  ",
            "at  4 5", "at 3 4 ", "at\t3 4 5", "at 3 4\t5", "at 3 4 5\t", "at 3 4 5\r", "at 3 4 5\x0b", "at 3 4 5\x0c",
            "at 3 4 5\x1c", "at 3 4 5\x85", "at 3 4 5\u2028", "at 3 4 5\u2029", "at 3 4 5\x00", "at 3\u00a04 5",
            "at 3\u20034 5", "at \u0663 4 5", "at 3 4 \u0665", "at 3 4 \u00b2", "at 3 4 \uff15", "at 3 4 \u2212 5",
            "at 3 4 \u22125", "at 3 'hidden' 5", "at 3 4 \u00bd", "layer here here", "at 3 4 5at 4 5 6", "at 3 4 - -", "- 3 4",
        ]
        for line in wrong:
            self.check(PLAIN_LINE * 2 + line + "\n", 2)
            self.check(PLAIN_LINE * 2 + "at 1 - 2\n" + line + "\n", 3)
            self.check(PLAIN_LINE * 2 + "at 1 - 2\nat 2 2 hidden\n" + line + "\nat 9 9 9\n\n", 4)
        self.assertEqual(read_stack(PLAIN_LINE * 2 + "at 3 4 5\n").column(3), (4, 5))
        self.assertEqual(read_stack(PLAIN_LINE * 2 + "at 0 0 -5\n").column(0), (0, -5))

    def test_columns_that_are_too_short_too_long_or_of_nothing(self):
        for count in (1, 2, 3):
            for many in range(7):
                text = PLAIN_LINE * count + "at 7" + " 5" * many + "\n"
                if many == count:
                    self.assertEqual(read_stack(text).column(7), (5,) * count)
                else:
                    self.check(text, count)
                self.check(PLAIN_LINE * count + "at 7" + " -" * many + "\n", count)

    def test_keys_that_do_not_ascend_or_stand_twice(self):
        def text(*keys):
            return PLAIN_LINE + "".join(f"at {key} 1\n" for key in keys)

        self.check(text(1, 1), 2)
        self.check(text(2, 1), 2)
        self.check(text(1, 2, 2), 3)
        self.check(text(0, 0), 2)
        self.check(text(-1, -1), 2)
        self.check(text(-1, -2), 2)
        self.check(text(1, 10, 2), 3)
        self.check(text(9, 10, 11, -12, 5), 4)
        self.check(text(BIG, BIG - 1), 2)
        self.check(PLAIN_LINE + "at 1 1\nat 1 2\n", 2)
        self.assertEqual(len(read_stack(text(-(10 ** 30), -10, -9, 0, 9, 10, 10 ** 30))), 7)

    def test_characters_behind_the_last_line_feed(self):
        for rest in ("x", " ", "\r", "at 9 9 9", "layer here here look", "-", "\x00", "#", "\u2028"):
            self.check(GOOD + rest, 4)
            self.check(PLAIN_LINE + rest, 1)
            self.check(PLAIN_LINE * 3 + rest, 3)
            self.check(rest, 0)
        self.check(GOOD[:-1], 3)
        self.check(PLAIN_LINE[:-1], 0)
        self.check((PLAIN_LINE * 2)[:-1], 1)
        self.check(GOOD + "\n", 4)
        self.check(GOOD + "\n\n", 4)

    def test_a_wrong_line_goes_ahead_of_what_follows_the_last_line_feed(self):
        self.check(PLAIN_LINE + "at 2 2\nat 1 1\nat 3 3", 2)
        self.check("x\nat 3 3", 0)
        self.check(PLAIN_LINE + "\nrest", 1)
        self.check(PLAIN_LINE + "at 1 x\nat 1 1\nat 0 0\n", 1)

    def test_other_signs_at_the_end_of_a_line(self):
        for sign in ("\r\n", "\n\r"):
            self.check(GOOD.replace("\n", sign), 0 if sign == "\r\n" else 1)
        for sign in ("\r", "\x0b", "\x0c", "\x1c", "\x1d", "\x1e", "\x85", "\u2028", "\u2029", " ", ";"):
            self.check(GOOD.replace("\n", sign), 0)
            for at in range(4):
                parts = GOOD.split("\n")
                parts[at] += sign
                self.check("\n".join(parts), at)
                self.check("\n".join(parts).replace(sign + "\n", sign), 3 if at == 3 else at)

    def test_each_changed_sign_makes_another_stack_or_is_refused(self):
        stack = read_stack(GOOD)
        for at in range(len(GOOD)):
            for sign in ("", " ", "-", "0", "1", "x", "\n", "\r", "+"):
                for text in (GOOD[:at] + sign + GOOD[at + 1:], GOOD[:at] + sign + GOOD[at:]):
                    try:
                        found = read_stack(text)
                    except BadText as error:
                        self.assertIn(error.row, range(text.count("\n") + 1))
                        continue
                    self.assertEqual(stack_text(found), text)
                    self.assertEqual(found == stack, text == GOOD)


if __name__ == "__main__":
    unittest.main()

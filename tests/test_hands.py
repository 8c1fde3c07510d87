"""[12] Two hands on one base, what they can rely on, and what shows it."""

import itertools
import unittest

from layermap.errors import BadHands, BadPromise, BadSteps
from layermap.hands import WORDS, Asunder, Hands, Together
from layermap.hands import answers, least_steps, place_after, together, words_kept
from layermap.stacks import Stack
from reference import ALL_LAYERS, ALONE, CACHE, HIDING, IDLE, PLAIN, SHUT, STEPS, THROUGH, TOLD, WRONG_DEEDS
from reference import any_layers, chance, holds, place_behind, places_by_steps
from reference import WORDS as LISTED
from test_layers import NO_LAYERS

MADE = ("here", "here", "look", ("made", 1))
BOTH_KEEP = ("both", "both", "keep", None)
DOWN = ("down", "down", "look", None)
NO_WORDS = [
    None, 5, True, "", "Agreed", "OWN", "own ", " own", "written", "open", "steady", b"own", ["own"], ("own",),
    {"own": 1}, [], (), {}, str, 0, "own\n", "agreed passed",
]
NO_STEPS = [
    None, 5, "ab", [0, ("ask",)], (0,), (), (0, ("ask",), None), ("0", ("ask",)), (True, ("ask",)), (False, ("ask",)),
    (None, ("ask",)), (2, ("ask",)), (-1, ("ask",)), (10 ** 40, ("ask",)), (("ask",), 0), {0: ("ask",)}, (0, ["ask"]),
    (0, "ask"), (1, None), (0, ("beneath", 1)), (1, ("beneath", None)), (0, ("write", True)), (1, (("ask",),)), ([0], ("ask",)),
] + [(hand, deed) for hand in (0, 1) for deed in WRONG_DEEDS]
NO_HANDS = [None, 5, True, "hands", b"", {}, [], (), ((), (), PLAIN), PLAIN, Hands, Stack.of(PLAIN), object()]


def sampled(seed, count):
    """Any hands, and often such as do little or what many hands do."""
    numbers = chance(seed)
    usual = [PLAIN, THROUGH, CACHE, HIDING, SHUT, IDLE, TOLD, BOTH_KEEP]
    for _ in range(count):
        made = []
        for many in (numbers.randrange(3), numbers.randrange(3), 1):
            if numbers.randrange(3):
                made.append(tuple(numbers.choice(usual) for _ in range(many)))
            else:
                made.append(any_layers(numbers, many))
        yield made[0], made[1], made[2][0]


def error_of(work, *given):
    try:
        work(*given)
    except (BadHands, BadSteps, BadPromise) as error:
        return type(error), getattr(error, "part", getattr(error, "index", None))
    return None


class HandsTest(unittest.TestCase):
    def test_attributes(self):
        for first, second in itertools.product(((), (CACHE,), (HIDING, TOLD)), repeat=2):
            hands = Hands(first, second, MADE)
            self.assertEqual((hands.first, hands.second, hands.base), (first, second, MADE))

    def test_all_settings_at_each_place(self):
        for layer in ALL_LAYERS:
            for first, second, base in (
                ((layer,), (), PLAIN), ((), (layer,), PLAIN), ((), (), layer), ((PLAIN, layer), (layer, PLAIN), layer),
            ):
                hands = Hands(first, second, base)
                self.assertEqual((hands.first, hands.second, hands.base), (first, second, base))

    def test_equal_are_those_with_equal_attributes(self):
        hands = Hands((CACHE,), (PLAIN, TOLD), PLAIN)
        self.assertTrue(hands == Hands((CACHE,), (PLAIN, TOLD), PLAIN))
        self.assertFalse(hands != Hands((CACHE,), (PLAIN, TOLD), PLAIN))
        for other in (
            Hands((), (PLAIN, TOLD), PLAIN), Hands((CACHE,), (TOLD, PLAIN), PLAIN), Hands((CACHE,), (PLAIN, TOLD), TOLD),
            Hands((PLAIN, TOLD), (CACHE,), PLAIN), Hands((CACHE,), (PLAIN,), PLAIN),
        ):
            self.assertFalse(hands == other)
            self.assertTrue(hands != other)
        for one, other in itertools.permutations([hands, Stack.of(PLAIN), Together([]), Asunder([])], 2):
            self.assertFalse(one == other)
            self.assertTrue(one != other)

    def test_what_is_no_layer_at_any_place(self):
        for wrong in NO_LAYERS:
            for own in ((wrong,), (PLAIN, wrong), (wrong, PLAIN)):
                self.assertEqual(error_of(Hands, own, (), PLAIN), (BadHands, "first"), own)
                self.assertEqual(error_of(Hands, (), own, PLAIN), (BadHands, "second"), own)
            self.assertEqual(error_of(Hands, (), (CACHE,), wrong), (BadHands, "base"), wrong)

    def test_what_is_no_tuple_of_none_to_two_layers(self):
        for wrong in (None, 5, True, "", [], [PLAIN], {}, {PLAIN: 1}, PLAIN, (PLAIN,) * 3, (PLAIN,) * 9, Stack.of(PLAIN)):
            self.assertEqual(error_of(Hands, wrong, (), PLAIN), (BadHands, "first"), wrong)
            self.assertEqual(error_of(Hands, (), wrong, PLAIN), (BadHands, "second"), wrong)
        for wrong in (None, 5, (), (PLAIN,), list(PLAIN), "here", {}):
            self.assertEqual(error_of(Hands, (), (), wrong), (BadHands, "base"), wrong)

    def test_the_first_wrong_part_is_told(self):
        self.assertEqual(error_of(Hands, 1, 2, 3), (BadHands, "first"))
        self.assertEqual(error_of(Hands, 1, (), PLAIN), (BadHands, "first"))
        self.assertEqual(error_of(Hands, (), 2, 3), (BadHands, "second"))
        self.assertEqual(error_of(Hands, (PLAIN,) * 3, (), None), (BadHands, "first"))
        self.assertEqual(error_of(Hands, (), (), 3), (BadHands, "base"))


class StepsTest(unittest.TestCase):
    def test_against_the_reference(self):
        numbers = chance(80)
        for made in sampled(81, 600):
            some = STEPS + [(hand, ("write", value)) for hand in (0, 1) for value in (7, -(10 ** 40))]
            steps = [numbers.choice(some) for _ in range(numbers.randrange(12))]
            hands, blank = Hands(*made), ((None,) * len(made[0]), (None,) * len(made[1]), None)
            found, place = place_behind(made, blank, steps)
            for given in (steps, tuple(steps)):
                self.assertEqual((answers(hands, given), place_after(hands, given)), (found, place), (made, steps))
                self.assertEqual([type(answer) for answer in answers(hands, given)], [type(answer) for answer in found])

    def test_all_settings(self):
        steps = [(0, ("write", 5)), (1, ("ask",)), (1, ("forget",)), (0, ("has",)), (1, ("write", 6)), (0, ("ask",))]
        blank = ((None,), (None,), None)
        for layer, other in zip(ALL_LAYERS, reversed(ALL_LAYERS)):
            made = (layer,), (other,), PLAIN
            for count in range(7):
                found = answers(Hands(*made), steps[:count]), place_after(Hands(*made), steps[:count])
                self.assertEqual(found, place_behind(made, blank, steps[:count]), made)

    def test_no_steps_at_all(self):
        for first, second in itertools.product(((), (CACHE,), (HIDING, TOLD)), repeat=2):
            hands = Hands(first, second, TOLD)
            for steps in ([], ()):
                self.assertEqual(answers(hands, steps), [])
                self.assertEqual(place_after(hands, steps), ((None,) * len(first), (None,) * len(second), None))

    def test_hands_with_no_layers_of_their_own(self):
        hands = Hands((), (), HIDING)
        steps = [(0, ("write", 5)), (1, ("ask",)), (1, ("forget",)), (0, ("has",)), (0, ("forget",))]
        self.assertEqual(answers(hands, steps), [None, 5, True, False, False])
        self.assertEqual(place_after(hands, steps), ((), (), "hidden"))
        self.assertEqual(place_after(hands, steps[:2]), ((), (), 5))

    def test_what_a_hand_has_of_its_own(self):
        hands = Hands((PLAIN, THROUGH), (SHUT,), PLAIN)
        steps = [(0, ("write", 1)), (1, ("ask",)), (1, ("write", 2)), (0, ("ask",)), (0, ("forget",)), (0, ("ask",))]
        self.assertEqual(answers(hands, steps), [None, None, None, 1, True, None])
        self.assertEqual(place_after(hands, steps), ((None, None), (2,), None))
        hands = Hands((BOTH_KEEP,), (DOWN, CACHE), PLAIN)
        steps = [(0, ("write", 10 ** 40)), (1, ("ask",)), (0, ("write", -1)), (1, ("ask",)), (1, ("forget",)), (1, ("ask",))]
        self.assertEqual(answers(hands, steps), [None, 10 ** 40, None, 10 ** 40, True, -1])
        self.assertEqual(place_after(hands, steps), ((-1,), (None, -1), -1))

    def test_what_is_returned_is_new_and_nothing_is_kept(self):
        hands = Hands((CACHE,), (), PLAIN)
        steps = [(1, ("write", 4)), (0, ("ask",))]
        answers(hands, steps).clear()
        self.assertEqual(answers(hands, steps), [None, 4])
        self.assertEqual(steps, [(1, ("write", 4)), (0, ("ask",))])
        self.assertEqual(place_after(hands, steps), ((4,), (), 4))

    def test_no_hands(self):
        for work in (answers, place_after):
            for wrong in NO_HANDS:
                for steps in ([], STEPS, None, [None]):
                    self.assertEqual(error_of(work, wrong, steps), (BadHands, None), wrong)

    def test_no_steps(self):
        hands = Hands((CACHE,), (), PLAIN)
        for work in (answers, place_after):
            for wrong in (None, 5, True, "", "ask", b"", {}, {0: ("ask",)}, set(), iter([]), range(0), list, hands):
                self.assertEqual(error_of(work, hands, wrong), (BadSteps, None), wrong)
            for wrong in NO_STEPS:
                for count in (0, 1, 5, 30):
                    self.assertEqual(error_of(work, hands, [(1, ("ask",))] * count + [wrong]), (BadSteps, count), wrong)
                    self.assertEqual(error_of(work, hands, ((0, ("has",)),) * count + (wrong, None)), (BadSteps, count), wrong)

    def test_many_steps(self):
        hands = Hands((CACHE,), (), PLAIN)
        self.assertEqual(answers(hands, [(0, ("write", 3))] * 500 + [(1, ("ask",))]), [None] * 501)


class FoundTest(unittest.TestCase):
    """What is returned, against steps done by tests/reference.py, also with other values."""

    def check(self, made, seen, wide):
        hands, values = Hands(*made), (0, 1, 7, -(10 ** 40))
        steps = STEPS + ([(hand, ("write", 7)) for hand in (0, 1)] if wide else [])
        ways = places_by_steps(made, steps)
        facts = words_kept(hands)
        self.assertEqual(list(facts), LISTED)
        for word in LISTED:
            least = min([count for place, count in ways.items() if not holds(made, place, word, values)], default=None)
            found, told = together(hands, word), (made, word)
            self.assertIs(facts[word], least is None, told)
            self.assertEqual(least_steps(hands, word), least, told)
            self.assertIs(found.shows(hands, word), True, told)
            if least is None:
                self.assertIsInstance(found, Together)
                listed = set(found.places)
                self.assertIn(((None,) * len(made[0]), (None,) * len(made[1]), None), listed)
                for place in listed:
                    self.assertTrue(holds(made, place, word, (0, 1)), told)
                    self.assertTrue(listed.issuperset(place_behind(made, place, [step])[1] for step in STEPS), told)
            else:
                self.assertIsInstance(found, Asunder)
                self.assertIs(type(found.steps), tuple)
                place = place_behind(made, None, found.steps)[1]
                self.assertFalse(holds(made, place, word, (0, 1)), told)
            seen[word, least] = seen.get((word, least), 0) + 1

    def test_any_hands(self):
        seen = {}
        for at, made in enumerate(sampled(82, 400)):
            self.check(made, seen, at % 4 == 0)
        for word in LISTED:
            self.assertGreater(seen.get((word, None), 0), 20, seen)
            self.assertGreater(sum(count for (told, least), count in seen.items() if told == word and least is not None), 20)
        self.assertGreaterEqual({least for _, least in seen}, {None, 0, 1, 2})

    def test_hands_with_no_layers_of_their_own(self):
        seen = {}
        for layer in ALL_LAYERS:
            self.check(((), (), layer), seen, True)

    def test_hands_with_one_layer(self):
        for at, layer in enumerate(ALL_LAYERS):
            self.check(((layer,), (), PLAIN), {}, False)
            self.check(((), (layer,), ALL_LAYERS[-at]), {}, False)

    def test_both_hands_the_other_way_round(self):
        for first, second, base in sampled(83, 60):
            one, other = Hands(first, second, base), Hands(second, first, base)
            self.assertEqual(words_kept(one), words_kept(other))
            self.assertEqual([least_steps(one, word) for word in WORDS], [least_steps(other, word) for word in WORDS])


class EachWordTest(unittest.TestCase):
    def least(self, word, first, second, base):
        hands = Hands(first, second, base)
        found = least_steps(hands, word)
        self.assertIs(words_kept(hands)[word], found is None)
        self.assertIs(together(hands, word).shows(hands, word), True)
        self.assertIs(isinstance(together(hands, word), Asunder), found is not None)
        return found

    def test_agreed(self):
        for first, second, base in (((), (), PLAIN), ((DOWN,), (DOWN, DOWN), HIDING), ((), (), TOLD), ((IDLE,), (), MADE)):
            self.assertIsNone(self.least("agreed", first, second, base))
        self.assertEqual(self.least("agreed", (PLAIN,), (), PLAIN), 1)
        self.assertEqual(self.least("agreed", (), (CACHE,), PLAIN), 1)
        self.assertEqual(self.least("agreed", (BOTH_KEEP,), (BOTH_KEEP,), PLAIN), 2)
        self.assertEqual(self.least("agreed", (TOLD,), (), PLAIN), 0)
        self.assertEqual(self.least("agreed", (), (SHUT,), MADE), 0)

    def test_passed(self):
        for first, second, base in (((), (), MADE), ((DOWN,), (), PLAIN), ((DOWN, IDLE), (DOWN,), HIDING), ((), (), TOLD)):
            self.assertIsNone(self.least("passed", first, second, base))
        self.assertEqual(self.least("passed", (THROUGH,), (DOWN,), PLAIN), 1)
        self.assertEqual(self.least("passed", (PLAIN,), (), PLAIN), 0)
        self.assertEqual(self.least("passed", (), (SHUT,), PLAIN), 0)
        self.assertEqual(self.least("passed", (BOTH_KEEP,), (BOTH_KEEP,), PLAIN), 1)
        # Only one of both values is not passed on.
        for number in (0, 1):
            self.assertEqual(self.least("passed", (), (("down", "down", "shut", ("told", number)),), PLAIN), 0)

    def test_taken(self):
        idle_shut = ("down", "down", "shut", None)
        for first, second, base in (((), (), PLAIN), ((), (), HIDING), ((DOWN,), (), TOLD), ((idle_shut,), (DOWN,), PLAIN)):
            self.assertIsNone(self.least("taken", first, second, base))
        self.assertEqual(self.least("taken", (PLAIN,), (), PLAIN), 1)
        self.assertEqual(self.least("taken", (), (HIDING,), PLAIN), 1)
        self.assertEqual(self.least("taken", (SHUT,), (SHUT,), PLAIN), 1)
        self.assertEqual(self.least("taken", (("both", "both", "look", None),), (), PLAIN), 1)

    def test_quiet(self):
        for first, second, base in (((), (), MADE), ((CACHE,), (CACHE, CACHE), PLAIN), ((TOLD,), (), PLAIN)):
            self.assertIsNone(self.least("quiet", first, second, base))
        through = ("both", "both", "look", ("made", 1))
        self.assertEqual(self.least("quiet", (through,), (), PLAIN), 0)
        self.assertEqual(self.least("quiet", (), (("down", "here", "look", ("made", 0)),), PLAIN), 0)
        self.assertEqual(self.least("quiet", (("here", "here", "look", ("made", 0)),), (), PLAIN), None)

    def test_own(self):
        for first, second, base in (((), (), MADE), ((PLAIN,), (), PLAIN), ((BOTH_KEEP,), (DOWN,), PLAIN), ((SHUT,), (), TOLD)):
            self.assertIsNone(self.least("own", first, second, base))
        self.assertEqual(self.least("own", (("down", "here", "shut", None),), (), PLAIN), 0)
        self.assertEqual(self.least("own", (("down", "here", "look", None), CACHE), (), PLAIN), None)
        # The other one writes what it makes, over what this hand has written down.
        making = ("both", "here", "shut", ("made", 0))
        self.assertEqual([self.least("own", (own,), (making,), PLAIN) for own in (DOWN, THROUGH)], [0, None])
        self.assertEqual(self.least("own", (making,), (DOWN,), PLAIN), 0)
        self.assertEqual(self.least("own", (DOWN,), (("both", "here", "shut", ("told", 0)),), PLAIN), None)

    def test_words_and_their_order(self):
        self.assertEqual(WORDS, ("agreed", "passed", "taken", "quiet", "own"))
        self.assertEqual(words_kept(Hands((), (), PLAIN)), {word: True for word in WORDS})
        for made in sampled(84, 20):
            facts = words_kept(Hands(*made))
            self.assertEqual((list(facts), {type(fact) for fact in facts.values()}), (list(WORDS), {bool}))

    def test_what_is_returned_is_new(self):
        hands = Hands((), (), PLAIN)
        words_kept(hands).clear()
        self.assertEqual(len(words_kept(hands)), 5)
        found, again = together(hands, "own"), together(hands, "own")
        self.assertEqual(found, again)
        found.places.clear()
        self.assertNotEqual(found, again)
        self.assertIs(together(hands, "own").shows(hands, "own"), True)


class TogetherShowsTest(unittest.TestCase):
    hands = Hands((CACHE,), (), PLAIN)
    places = [((top,), (), held) for top in (None, 0, 1) for held in (None, 0, 1)]

    def shown(self, places, word="own"):
        return Together(places).shows(self.hands, word)

    def test_right_places(self):
        self.assertIs(self.shown(self.places), True)
        self.assertIs(self.shown(self.places, "quiet"), True)
        self.assertIs(self.shown(self.places[::-1]), True)
        self.assertIs(self.shown(self.places + self.places[:4]), True)
        more = [((top,), (), 5) for top in (0, 1, 5)] + [((None,), (), 5)] + [((5,), (), held) for held in (None, 0, 1)]
        self.assertIs(self.shown(self.places + more), True)
        self.assertIs(self.shown(self.places + [(("hidden",), (), held) for held in (None, 0, 1)]), True)

    def test_one_left_out_and_one_that_leads_out_of_the_list(self):
        for at in range(9):
            self.assertIs(self.shown(self.places[:at] + self.places[at + 1:]), False, at)
        self.assertIs(self.shown([]), False)
        self.assertIs(self.shown(self.places + [((None,), (), 5)]), False)
        self.assertIs(self.shown(self.places + [((5,), (), None)]), False)
        self.assertIs(self.shown(self.places + [(("hidden",), (), None)]), False)

    def test_the_place_at_the_beginning_has_to_be_there(self):
        hands = Hands((), (), HIDING)
        some = [((), (), 0), ((), (), 1), ((), (), "hidden")]
        self.assertIs(Together(some).shows(hands, "own"), False)
        self.assertIs(Together(some + [((), (), None)]).shows(hands, "own"), True)

    def test_places_at_which_the_word_is_not_kept(self):
        for word in ("agreed", "passed", "taken"):
            self.assertIs(self.shown(self.places, word), False, word)
        told = Hands((), (), TOLD)
        self.assertIs(Together([((), (), held) for held in (None, 0, 1)]).shows(told, "agreed"), True)
        plain = Hands((), (("both", "both", "look", None),), PLAIN)
        closed = [((), (held,), held) for held in (None, 0, 1)]
        closed += [((), (top,), held) for top in (0, 1, None) for held in (0, 1, None) if top != held]
        self.assertIs(Together(closed).shows(plain, "own"), True)
        self.assertIs(Together(closed).shows(plain, "agreed"), False)
        lone = Hands((SHUT,), (SHUT,), PLAIN)
        some = [((one,), (other,), None) for one in (None, 0, 1) for other in (None, 0, 1)]
        self.assertIs(Together(some).shows(lone, "quiet"), True)
        self.assertIs(Together(some).shows(lone, "agreed"), False)

    def test_one_place_put_in_at_which_the_word_is_not_kept(self):
        hands = Hands((IDLE,), (), PLAIN)
        some = [((None,), (), held) for held in (None, 0, 1)]
        more = [((4,), (), held) for held in (None, 0, 1)]
        for word in WORDS:
            self.assertIs(Together(some).shows(hands, word), True, word)
            self.assertIs(Together(some + more).shows(hands, word), word in ("quiet",), word)

    def test_what_are_no_places(self):
        for wrong in (
            ((None,), (), "hid"), ((None,), (), ""), (("x",), (), None), ((True,), (), None), ((None,), (), False),
            ((None, None), (), None), ((), (None,), None), ((None,), (None,), None), ((), (), None),
            (), ((None,), ()), ((None,), (), None, None), [(None,), (), None], None, 5, ([None], (), None), ((None,), (), (None,)),
        ):
            self.assertIs(self.shown(self.places + [wrong]), False, wrong)
            self.assertIs(self.shown([wrong] + self.places), False, wrong)

    def test_other_hands(self):
        for made in (((), (CACHE,), PLAIN), ((CACHE,), (CACHE,), PLAIN), ((), (), PLAIN), ((CACHE, CACHE), (), PLAIN)):
            self.assertIs(Together(self.places).shows(Hands(*made), "own"), False)
        turned = [(second, first, held) for first, second, held in self.places]
        self.assertIs(Together(turned).shows(Hands((), (CACHE,), PLAIN), "own"), True)

    def test_all_deeds_of_both_hands_count(self):
        """One place left out of each found list; each place but the first came about by a deed of a hand."""
        for first, second in itertools.product(((), (CACHE,), (HIDING,), (BOTH_KEEP,), (PLAIN, HIDING)), repeat=2):
            hands = Hands(first, second, PLAIN)
            places = together(hands, "own").places
            self.assertIs(Together(places).shows(hands, "own"), True)
            for at in range(len(places)):
                self.assertIs(Together(places[:at] + places[at + 1:]).shows(hands, "own"), False)

    def test_the_current_attribute_counts(self):
        some = Together(self.places)
        some.places.pop()
        self.assertIs(some.shows(self.hands, "own"), False)
        some.places = list(self.places)
        self.assertIs(some.shows(self.hands, "own"), True)


class AsunderShowsTest(unittest.TestCase):
    hands = Hands((BOTH_KEEP,), (BOTH_KEEP,), PLAIN)
    steps = ((0, ("write", 5)), (1, ("ask",)), (0, ("write", 6)))

    def shown(self, steps, word="agreed"):
        return Asunder(steps).shows(self.hands, word)

    def test_right_steps(self):
        self.assertIs(self.shown(self.steps), True)
        self.assertIs(self.shown(list(self.steps)), True)
        self.assertIs(self.shown(((1, ("write", -(10 ** 40))), (0, ("write", 0)))), True)
        self.assertIs(self.shown(((0, ("write", 1)),), "passed"), True)
        self.assertIs(self.shown(((0, ("write", 1)), (0, ("forget",))), "passed"), False)
        self.assertIs(self.shown(((0, ("write", 1)), (1, ("ask",))), "passed"), True)
        self.assertIs(self.shown(((0, ("write", 1)), (1, ("ask",))), "taken"), True)

    def test_steps_after_which_it_is_kept(self):
        for steps in (self.steps[:2], self.steps[:1], (), self.steps[::2], self.steps[1:], self.steps + ((1, ("write", 6)),)):
            self.assertIs(self.shown(steps), False, steps)
        self.assertIs(self.shown(((0, ("write", 5)), (1, ("ask",)), (0, ("write", 5)))), False)
        for word in ("quiet", "own"):
            self.assertIs(self.shown(self.steps, word), False)

    def test_one_step_put_in_or_changed(self):
        self.assertIs(self.shown(self.steps + ((1, ("write", 7)),)), True)
        self.assertIs(self.shown(self.steps + ((1, ("write", 6)),)), False)
        self.assertIs(self.shown(self.steps + ((1, ("forget",)),)), True)
        self.assertIs(self.shown(self.steps + ((1, ("forget",)), (0, ("forget",)))), False)
        self.assertIs(self.shown(((1, ("write", 5)),) + self.steps[1:]), True)
        self.assertIs(self.shown(((0, ("has",)),) + self.steps[1:]), False)
        self.assertIs(self.shown(self.steps[:2] + ((0, ("ask",)),)), False)
        self.assertIs(self.shown(self.steps[:2] + ((0, ("write", 5)),)), False)
        self.assertIs(self.shown(self.steps[:1] + ((0, ("ask",)),) + self.steps[2:]), False)

    def test_no_steps_at_all(self):
        self.assertIs(Asunder(()).shows(Hands((PLAIN,), (), PLAIN), "passed"), True)
        self.assertIs(Asunder(()).shows(Hands((PLAIN,), (), PLAIN), "agreed"), False)
        self.assertIs(Asunder([]).shows(Hands((TOLD,), (), PLAIN), "agreed"), True)
        self.assertIs(Asunder([]).shows(Hands((), (), PLAIN), "agreed"), False)

    def test_each_word(self):
        through = ("both", "both", "keep", ("made", 1))
        for made in (((through,), (BOTH_KEEP,), PLAIN), ((PLAIN,), (SHUT,), TOLD), ((DOWN,), (through, CACHE), HIDING)):
            for steps in itertools.chain([()], ((step,) for step in STEPS), itertools.product(STEPS, repeat=2)):
                place = place_behind(made, None, steps)[1]
                for word in WORDS:
                    shown = Asunder(steps).shows(Hands(*made), word)
                    self.assertIs(shown, not holds(made, place, word, (0, 1)), (made, steps, word))

    def test_what_are_no_steps(self):
        for wrong in NO_STEPS:
            if isinstance(wrong, tuple):
                for steps in (self.steps + (wrong,), (wrong,) + self.steps, [wrong], self.steps[:1] + (wrong,) + self.steps[1:]):
                    self.assertIs(self.shown(steps), False, wrong)
                self.assertIs(Asunder([wrong]).shows(Hands((TOLD,), (), PLAIN), "agreed"), False, wrong)

    def test_the_current_attribute_counts(self):
        some = Asunder(self.steps)
        some.steps = self.steps[:2]
        self.assertIs(some.shows(self.hands, "agreed"), False)
        some.steps = list(self.steps)
        self.assertIs(some.shows(self.hands, "agreed"), True)


class ObjectsTest(unittest.TestCase):
    places = [((), (None,), 1), ((), ("hidden",), 2)]
    steps = [(0, ("ask",)), (1, ("write", 4))]

    def test_attributes_are_copied(self):
        places, steps = list(self.places), list(self.steps)
        kept, broken = Together(places), Asunder(steps)
        self.assertEqual((kept.places, broken.steps), (self.places, tuple(self.steps)))
        self.assertEqual((type(kept.places), type(broken.steps)), (list, tuple))
        places.append(())
        steps.clear()
        self.assertEqual((kept.places, broken.steps), (self.places, tuple(self.steps)))
        kept.places.clear()
        self.assertEqual(len(places), 3)
        self.assertEqual((Together([]).places, Asunder([]).steps, Asunder(()).steps), ([], (), ()))

    def test_equal_are_those_with_equal_attributes(self):
        self.assertTrue(Together(self.places) == Together(list(self.places)))
        self.assertFalse(Together(self.places) != Together(list(self.places)))
        self.assertTrue(Together(self.places) != Together(self.places[::-1]))
        self.assertFalse(Together(self.places) == Together(self.places[:1]))
        self.assertTrue(Asunder(self.steps) == Asunder(tuple(self.steps)))
        self.assertFalse(Asunder(self.steps) != Asunder(tuple(self.steps)))
        for other in (self.steps[:1], [], self.steps[::-1], [(1, ("ask",)), (1, ("write", 4))]):
            self.assertFalse(Asunder(self.steps) == Asunder(other))
            self.assertTrue(Asunder(self.steps) != Asunder(other))
        self.assertFalse(Together([]) == Asunder([]))
        self.assertTrue(Asunder([]) != Together([]))


class BadArgumentsTest(unittest.TestCase):
    good = Hands((), (), PLAIN)

    def works(self):
        objects = [Together([((), (), held) for held in (None, 0, 1)]), Together([]), Asunder([]), Asunder([(2, ())])]
        return [together, least_steps] + [some.shows for some in objects]

    def test_no_hands(self):
        for wrong in NO_HANDS + [Together([]), Asunder([])]:
            for work, word in itertools.product(self.works(), ("own", None, "x")):
                self.assertEqual(error_of(work, wrong, word), (BadHands, None), wrong)
            self.assertEqual(error_of(words_kept, wrong), (BadHands, None), wrong)

    def test_no_words(self):
        for wrong in NO_WORDS:
            for work in self.works():
                self.assertEqual(error_of(work, self.good, wrong), (BadPromise, None), wrong)
        for word in WORDS:
            for work in self.works():
                work(self.good, word)

    def test_deeds_other_than_these_are_not_meant(self):
        """What somebody else does to the base is no step, and no word speaks of it."""
        self.assertNotIn("beneath", [deed[0] for deed in ALONE])
        self.assertEqual(error_of(answers, self.good, [(0, ("ask",)), (1, ("beneath", 3))]), (BadSteps, 1))
        self.assertEqual(error_of(place_after, self.good, [(0, ("beneath", None))]), (BadSteps, 0))


if __name__ == "__main__":
    unittest.main()

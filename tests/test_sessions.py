"""[10] Sessions with their journals, branches and attempts; views of keys."""

import unittest

from layermap.errors import BadDeed, BadKey, BadStack, BadSteps, LayerError, NothingDone
from layermap.sessions import Keys, Session
from layermap.stacks import Stack
from reference import ALL_LAYERS, CACHE, HIDING, NO_STACKS, PLAIN, SHARED, SHUT, THROUGH, TOLD, WRONG_DEEDS
from reference import Column, any_contents, any_layers, chance

NO_KEYS = [None, True, False, "1", b"1", (1,), [1], {}, {1: 2}, object(), int]
NO_DEEDS = WRONG_DEEDS + [None, 5, True, "ask", ["ask"], [("ask",)], {"ask": 1}, (["ask"],), (("ask",),), Stack]
LAYERS = (HIDING, ("both", "here", "keep", ("told", 1)))
CONTENTS = ({5: "hidden"}, {-2: 7, 5: 3})


def state(session):
    return session.stack(), session.journal, len(session), session.view().listed(), session.view().seen()


def undoable(session):
    """Undoes all that can be undone, and lists it."""
    found = []
    while True:
        try:
            found.append(session.undo())
        except NothingDone:
            return found


class DeedsTest(unittest.TestCase):
    def test_deeds_and_their_answers(self):
        stack = Stack(LAYERS, CONTENTS)
        session, twin = Session(stack), stack.twin()
        for key in (5, -2, 0, 10 ** 40):
            for deed in SHARED + [("write", -(10 ** 40)), ("beneath", 9), ("ask",), ("has",)]:
                self.assertEqual([session.do(key, deed)], twin.do(key, deed))
                self.assertEqual(session.stack(), twin)
                self.assertEqual(session.stack().column(key), twin.column(key))

    def test_kinds_of_answers(self):
        session = Session(Stack.plain({1: 2}))
        self.assertIs(session.do(1, ("has",)), True)
        self.assertEqual(session.do(1, ("ask",)), 2)
        self.assertIsNone(session.do(1, ("write", 3)))
        self.assertIs(session.do(1, ("forget",)), True)
        self.assertIs(session.do(1, ("forget",)), False)
        self.assertIsNone(session.do(1, ("ask",)))
        self.assertIsNone(session.do(1, ("beneath", None)))

    def test_the_journal(self):
        session = Session(Stack.plain({1: 2}))
        self.assertEqual((session.journal, len(session), list(session)), ([], 0, []))
        session.do(1, ("ask",))
        session.do(-4, ("write", 0))
        session.do(1, ("has",))
        session.do(1, ("beneath", None))
        triples = [(1, ("ask",), 2), (-4, ("write", 0), None), (1, ("has",), True), (1, ("beneath", None), None)]
        self.assertEqual((session.journal, len(session), list(session)), (triples, 4, triples))
        self.assertIs(type(session.journal), list)
        self.assertEqual({type(triple) for triple in session.journal}, {tuple})
        self.assertIs(session.journal[2][2], True)

    def test_the_journal_is_new_each_time(self):
        session = Session(Stack.plain({1: 2}))
        session.do(1, ("ask",))
        some = session.journal
        some.append(4)
        self.assertEqual(session.journal, [(1, ("ask",), 2)])
        session.journal.clear()
        self.assertEqual((len(session), len(session.journal)), (1, 1))
        old = session.journal
        session.do(1, ("has",))
        self.assertEqual(len(old), 1)
        self.assertIsNot(session.journal, session.journal)

    def test_iteration_is_begun_anew_each_time(self):
        session = Session(Stack.plain({1: 2}))
        for deed in SHARED:
            session.do(1, deed)
        self.assertEqual([list(session), list(session)], [session.journal] * 2)
        self.assertEqual([(one, other) for one in session for other in session],
                         [(one, other) for one in session.journal for other in session.journal])
        key, deed, answer = next(iter(session))
        self.assertEqual((key, deed, answer), (1, ("ask",), 2))

    def test_deeds_that_are_done_in_a_loop_over_the_session(self):
        session = Session(Stack.plain({1: 2}))
        session.do(1, ("has",))
        session.do(2, ("write", 3))
        for key, deed, _ in session:
            session.do(key + 10, deed)
        self.assertEqual([key for key, _, _ in session], [1, 2, 11, 12])

    def test_the_given_stack_is_independent(self):
        stack = Stack(LAYERS, CONTENTS)
        twin, session = stack.twin(), Session(stack)
        for key in (5, -2, 3):
            for deed in SHARED:
                session.do(key, deed)
        self.assertEqual(stack, twin)
        session = Session(stack)
        stack.do(5, ("write", 1), ("beneath", 2))
        stack[77] = 7
        self.assertEqual(session.stack(), twin)

    def test_the_returned_stack_is_independent(self):
        session = Session(Stack(LAYERS, CONTENTS))
        found = session.stack()
        self.assertIsInstance(found, Stack)
        self.assertEqual((found, found.layers), (Stack(LAYERS, CONTENTS), LAYERS))
        found[5] = 9
        found.beneath(-2, None)
        self.assertEqual(session.stack(), Stack(LAYERS, CONTENTS))
        self.assertEqual((session.view().listed(), len(session)), ([-2], 0))
        session.do(5, ("write", 4))
        self.assertEqual((found[5], session.stack()[5]), (9, 4))
        self.assertIsNot(session.stack(), session.stack())

    def test_what_is_refused(self):
        session = Session(Stack(LAYERS, CONTENTS))
        session.do(5, ("write", 4))
        before = state(session)
        for wrong in NO_KEYS:
            for deed in [("ask",), ("write", 1), *NO_DEEDS]:
                with self.assertRaises(BadKey, msg=wrong):
                    session.do(wrong, deed)
        for wrong in NO_DEEDS:
            with self.assertRaises(BadDeed, msg=wrong):
                session.do(5, wrong)
        self.assertEqual(state(session), before)
        self.assertEqual(undoable(session), [(5, ("write", 4))])

    def test_no_stacks(self):
        for wrong in NO_STACKS + [Session(Stack.plain({})), Keys(Stack.plain({}))]:
            for made in (Session, Keys):
                with self.assertRaises(BadStack) as caught:
                    made(wrong)
                self.assertIsNone(caught.exception.part)

    def test_classes(self):
        session = Session(Stack.plain({}))
        self.assertIs(type(session.view()), Keys)
        self.assertIs(type(session.branch()), Session)
        self.assertFalse(session == session.stack())
        self.assertTrue(session != session.view())


class UndoTest(unittest.TestCase):
    def test_back_to_nothing(self):
        stack = Stack(LAYERS, CONTENTS)
        session, states, done = Session(stack), [], []
        for key in (5, -2, 0, 5):
            for deed in SHARED:
                states.append(state(session))
                session.do(key, deed)
                done.append((key, deed))
        for before, pair in reversed(list(zip(states, done))):
            found = session.undo()
            self.assertEqual((found, type(found)), (pair, tuple))
            self.assertEqual(state(session), before)
        for _ in range(3):
            with self.assertRaises(NothingDone):
                session.undo()
        self.assertEqual(state(session), (stack, [], 0, [-2], [7]))

    def test_nothing_done_at_first(self):
        session = Session(Stack.plain({1: 2}))
        with self.assertRaises(NothingDone) as caught:
            session.undo()
        self.assertIsInstance(caught.exception, LayerError)
        session.do(1, ("has",))
        self.assertEqual(session.undo(), (1, ("has",)))
        with self.assertRaises(NothingDone):
            session.undo()

    def test_every_layer_every_column_every_deed(self):
        numbers = chance(60)
        for layer in ALL_LAYERS:
            layers = (layer, *any_layers(numbers, numbers.randrange(1, 3)))
            contents = tuple({3: numbers.choice(["hidden", 0, 1, 8])} if numbers.randrange(2) else {} for _ in layers)
            for deed in SHARED + [("write", 10 ** 40)]:
                session = Session(Stack(layers, contents))
                session.do(3, deed)
                session.undo()
                self.assertEqual(session.stack(), Stack(layers, contents), (layers, contents, deed))

    def test_a_key_that_no_layer_has_again(self):
        session = Session(Stack.plain({}))
        session.do(4, ("write", 5))
        session.undo()
        self.assertEqual((session.stack(), session.view().listed()), (Stack.plain({}), []))
        session.do(4, ("write", 5))
        session.do(4, ("forget",))
        session.undo()
        self.assertEqual(session.stack(), Stack.plain({4: 5}))

    def test_deeds_behind_an_undo(self):
        session = Session(Stack.of(CACHE, PLAIN))
        session.do(1, ("beneath", 4))
        session.do(1, ("ask",))
        session.undo()
        session.do(1, ("beneath", 6))
        self.assertEqual(session.do(1, ("ask",)), 6)
        self.assertEqual([answer for _, _, answer in session], [None, None, 6])
        self.assertEqual(session.stack().column(1), (6, 6))


class BranchTest(unittest.TestCase):
    def test_everything_is_the_same(self):
        session = Session(Stack(LAYERS, CONTENTS))
        session.do(5, ("write", 4))
        session.do(-2, ("ask",))
        branch = session.branch()
        self.assertIsNot(branch, session)
        self.assertEqual(state(branch), state(session))
        self.assertEqual(undoable(branch), [(-2, ("ask",)), (5, ("write", 4))])
        self.assertEqual(branch.stack(), Stack(LAYERS, CONTENTS))

    def test_both_are_independent(self):
        session = Session(Stack(LAYERS, CONTENTS))
        session.do(5, ("write", 4))
        before, branch = state(session), session.branch()
        branch.do(5, ("forget",))
        branch.do(8, ("write", 9))
        self.assertEqual(state(session), before)
        self.assertEqual((len(branch), branch.view().listed()), (3, [-2, 8]))
        there = state(branch)
        session.undo()
        session.do(1, ("beneath", 1))
        self.assertEqual(state(branch), there)
        self.assertEqual(undoable(session), [(1, ("beneath", 1))])
        self.assertEqual(len(undoable(branch)), 3)

    def test_branches_of_branches(self):
        session = Session(Stack.plain({}))
        session.do(1, ("write", 1))
        one = session.branch()
        one.do(2, ("write", 2))
        two = one.branch()
        two.do(3, ("write", 3))
        one.undo()
        self.assertEqual([some.view().listed() for some in (session, one, two)], [[1], [1], [1, 2, 3]])

    def test_a_branch_that_is_made_in_an_attempt(self):
        session = Session(Stack(LAYERS, CONTENTS))
        session.do(5, ("write", 4))

        def work(here):
            empty = here.branch()
            here.do(7, ("write", 8))
            here.do(5, ("forget",))
            branch = here.branch()
            here.undo()
            return empty, branch

        empty, branch = session.attempt(work)
        self.assertEqual((len(session), len(empty), len(branch)), (1, 1, 3))
        self.assertEqual(branch.view().listed(), [-2, 7])
        self.assertEqual(undoable(empty), [(5, ("write", 4))])
        self.assertEqual(undoable(branch), [(5, ("forget",)), (7, ("write", 8)), (5, ("write", 4))])
        self.assertEqual([some.stack() for some in (empty, branch)], [Stack(LAYERS, CONTENTS)] * 2)
        self.assertEqual(session.stack().column(5), (4, 3))

    def test_all_deeds_of_a_branch_can_be_undone_also_within_the_attempt(self):
        session = Session(Stack.plain({}))
        session.do(1, ("write", 1))

        def work(here):
            branch = here.branch()
            self.assertEqual(branch.undo(), (1, ("write", 1)))
            with self.assertRaises(NothingDone):
                here.undo()
            self.assertEqual((here.view().listed(), branch.view().listed()), ([1], []))
            branch.do(2, ("write", 2))
            return branch.attempt(lambda there: undoable(there))

        self.assertEqual(session.attempt(work), [])
        self.assertEqual(session.view().listed(), [1])


class OwnError(Exception):
    pass


class AttemptTest(unittest.TestCase):
    def setUp(self):
        self.session = Session(Stack(LAYERS, CONTENTS))
        self.session.do(5, ("write", 4))
        self.session.do(0, ("beneath", 2))
        self.before = state(self.session)

    def check_as_before(self):
        self.assertEqual(state(self.session), self.before)
        self.assertEqual(undoable(self.session.branch()), [(0, ("beneath", 2)), (5, ("write", 4))])
        self.assertEqual(undoable(self.session), [(0, ("beneath", 2)), (5, ("write", 4))])
        self.assertEqual(self.session.stack(), Stack(LAYERS, CONTENTS))

    def deeds(self, session):
        for key in (5, 0, -2, 33):
            for deed in SHARED:
                session.do(key, deed)

    def test_the_function_gets_the_session_and_its_value_is_returned(self):
        self.assertIs(self.session.attempt(lambda session: session), self.session)
        self.assertIsNone(self.session.attempt(lambda session: None))
        found = [1]
        self.assertIs(self.session.attempt(lambda session: found), found)
        self.assertEqual(self.session.attempt(lambda session: session.do(5, ("ask",))), 4)
        self.check_as_before()

    def test_everything_is_as_before_behind_a_return(self):
        def work(session):
            self.deeds(session)
            self.assertEqual((len(session), session.journal[:2]), (34, self.before[1]))
            return session.stack()

        found = self.session.attempt(work)
        self.assertNotEqual(found, self.session.stack())
        self.check_as_before()

    def test_everything_is_as_before_behind_an_error_of_any_class(self):
        errors = [
            OwnError("x"), ValueError(), KeyError(3), BadKey("k"), NothingDone("n"), BadSteps(4), ZeroDivisionError(),
            StopIteration(5), KeyboardInterrupt(), SystemExit(3), GeneratorExit(), AttributeError(), AssertionError(),
            RecursionError(), BaseException(),
        ]
        for error in errors:
            def work(session):
                self.deeds(session)
                session.undo()
                raise error

            with self.assertRaises(type(error)) as caught:
                self.session.attempt(work)
            self.assertIs(caught.exception, error)
            self.assertEqual(state(self.session), self.before)
        self.check_as_before()

    def test_errors_of_the_session_are_passed_on_too(self):
        works = [
            (BadKey, lambda session: session.do("x", ("ask",))), (BadDeed, lambda session: session.do(1, ("x",))),
            (NothingDone, lambda session: session.undo()), (BadSteps, lambda session: session.tried(4)),
        ]
        for error, last in works:
            def work(session):
                session.do(1, ("write", 2))
                session.undo()
                session.do(5, ("forget",))
                session.undo()
                return last(session)

            with self.assertRaises(error):
                self.session.attempt(work)
            self.assertEqual(state(self.session), self.before)
        self.check_as_before()

    def test_only_its_own_deeds_can_be_undone(self):
        def work(session):
            with self.assertRaises(NothingDone):
                session.undo()
            session.do(1, ("write", 2))
            session.do(2, ("write", 3))
            found = undoable(session)
            self.assertEqual(state(session), self.before)
            session.do(5, ("forget",))
            return found + undoable(session)

        found = self.session.attempt(work)
        self.assertEqual(found, [(2, ("write", 3)), (1, ("write", 2)), (5, ("forget",))])
        self.check_as_before()

    def test_attempts_one_behind_the_other(self):
        for _ in range(3):
            self.session.attempt(self.deeds)
            with self.assertRaises(OwnError):
                self.session.attempt(self.fails)
        self.check_as_before()

    def fails(self, session):
        self.deeds(session)
        raise OwnError()

    def test_attempts_within_one_another(self):
        """Three of them; the outer one and the middle one go on behind what is within."""
        def inner(session):
            session.do(3, ("write", 3))
            session.do(2, ("forget",))
            self.assertEqual([key for key, _, _ in session][2:], [1, 2, 3, 2])
            self.assertEqual(undoable(session), [(2, ("forget",)), (3, ("write", 3))])
            session.do(5, ("beneath", None))
            return "inner"

        def middle(session):
            session.do(2, ("write", 2))
            before = state(session)
            self.assertEqual(session.attempt(inner), "inner")
            self.assertEqual(state(session), before)
            with self.assertRaises(OwnError):
                session.attempt(self.fails)
            self.assertEqual(state(session), before)
            self.assertEqual(undoable(session), [(2, ("write", 2))])
            session.do(0, ("write", -1))
            raise OwnError("middle")

        def outer(session):
            session.do(1, ("write", 1))
            before = state(session)
            with self.assertRaises(OwnError):
                session.attempt(middle)
            self.assertEqual(state(session), before)
            session.do(1, ("write", 5))
            self.assertEqual(undoable(session), [(1, ("write", 5)), (1, ("write", 1))])
            self.assertEqual(state(session), self.before)
            return session.do(9, ("has",))

        self.assertIs(self.session.attempt(outer), False)
        self.check_as_before()

    def test_an_error_goes_through_all_three(self):
        def outer(session):
            session.do(1, ("write", 1))
            return session.attempt(middle)

        def middle(session):
            session.do(2, ("write", 2))
            return session.attempt(self.fails)

        with self.assertRaises(OwnError):
            self.session.attempt(outer)
        self.check_as_before()

    def test_in_an_attempt_the_session_itself_is_what_deeds_change(self):
        def work(session):
            self.session.do(6, ("write", 7))
            self.assertEqual(session.view().listed(), [-2, 0, 5, 6])
            self.assertEqual(session.stack()[6], 7)
            return session.branch().stack()[6]

        self.assertEqual(self.session.attempt(work), 7)
        self.check_as_before()

    def test_with_no_deeds_at_all(self):
        session = Session(Stack.plain({}))
        session.attempt(lambda here: here.do(1, ("write", 1)))
        self.assertEqual(state(session), (Stack.plain({}), [], 0, [], []))
        with self.assertRaises(NothingDone):
            session.undo()


class TriedTest(unittest.TestCase):
    def setUp(self):
        self.session = Session(Stack(LAYERS, CONTENTS))
        self.session.do(5, ("write", 4))
        self.before = state(self.session)

    def index_of(self, steps):
        with self.assertRaises(BadSteps) as caught:
            self.session.tried(steps)
        self.assertEqual(state(self.session), self.before)
        return caught.exception.index

    def test_answers(self):
        steps = [(5, ("forget",)), (5, ("has",)), (5, ("beneath", 8)), (-2, ("ask",)), (1, ("ask",)), (1, ("write", 3))]
        steps.append((1, ("ask",)))
        for some in (steps, tuple(steps)):
            found = self.session.tried(some)
            self.assertEqual((found, type(found)), ([True, False, None, 7, 1, None, 3], list))
            self.assertEqual(state(self.session), self.before)
        self.assertEqual(steps[0], (5, ("forget",)))
        self.assertEqual(len(steps), 7)
        self.assertEqual([self.session.tried([]), self.session.tried(())], [[], []])
        self.assertEqual(undoable(self.session), [(5, ("write", 4))])

    def test_twenty_and_more(self):
        twenty = [(at, ("write", at)) for at in range(10)] + [(at, ("ask",)) for at in range(10)]
        self.assertEqual(self.session.tried(twenty), [None] * 10 + list(range(10)))
        self.assertEqual(self.session.tried(tuple(twenty)), [None] * 10 + list(range(10)))
        for many in (twenty + [(1, ("ask",))], [(1, ("ask",))] * 400, [None] * 21, tuple(twenty) * 2):
            self.assertIsNone(self.index_of(many))
        self.assertEqual(self.index_of([None] * 20), 0)

    def test_what_is_no_list_or_tuple(self):
        for wrong in (None, 5, True, "", "ask", b"", {}, {5: ("ask",)}, set(), iter([]), range(0), Stack.plain({}), list):
            self.assertIsNone(self.index_of(wrong))

    def test_the_index_of_the_first_wrong_item(self):
        right = (5, ("forget",))
        items = [
            None, 5, "ab", [5, ("ask",)], (5,), (), (5, ("ask",), None), ("5", ("ask",)), (True, ("ask",)),
            (None, ("ask",)), ("ask",), (("ask",), 5), {5: ("ask",)}, (5, ["ask"]), (5, ("write", True)),
        ]
        for wrong in items + [(5, deed) for deed in NO_DEEDS]:
            for count in (0, 1, 4, 19):
                self.assertEqual(self.index_of([right] * count + [wrong]), count, wrong)
                self.assertEqual(self.index_of((right,) * count + (wrong,)), count, wrong)
            self.assertEqual(self.index_of([right, wrong, right, wrong, None]), 1)

    def test_within_an_attempt_and_nested(self):
        def work(session):
            session.do(8, ("write", 1))
            before = state(session)
            found = session.tried([(8, ("ask",)), (8, ("forget",)), (8, ("has",))])
            self.assertEqual(state(session), before)
            return found

        self.assertEqual(self.session.attempt(work), [1, True, False])
        self.assertEqual(state(self.session), self.before)


class KeysTest(unittest.TestCase):
    def look(self, keys):
        listed = keys.listed()
        self.assertEqual(len(keys), len(listed))
        self.assertTrue(all(key in keys for key in listed))
        return listed, keys.seen()

    def test_a_view_of_a_stack_shows_it_as_it_is(self):
        stack = Stack(LAYERS, CONTENTS)
        keys = Keys(stack)
        self.assertEqual(self.look(keys), ([-2], [7]))
        stack[5] = 4
        self.assertEqual(self.look(keys), ([-2, 5], [7, 4]))
        stack |= {9: 1, -7: 10 ** 40, 5: 6}
        self.assertEqual(self.look(keys), ([-7, -2, 5, 9], [10 ** 40, 7, 6, 1]))
        stack.forget(-2)
        self.assertEqual(self.look(keys), ([-7, 5, 9], [10 ** 40, 6, 1]))
        stack.beneath(0, 0)
        self.assertEqual(self.look(keys), ([-7, 0, 5, 9], [10 ** 40, 0, 6, 1]))
        self.assertEqual(stack.column(0), (None, 0))

    def test_in(self):
        stack = Stack((HIDING, SHUT, PLAIN), ({1: "hidden", 4: 0}, {1: 2, 2: 3}, {3: 4}))
        keys = Keys(stack)
        found = [key in keys for key in (0, 1, 2, 3, 4, 10 ** 40, -1)]
        self.assertEqual(found, [False, False, True, False, True, False, False])
        self.assertEqual((keys.listed(), keys.seen(), len(keys)), ([2, 4], [3, 0], 2))
        for wrong in NO_KEYS:
            with self.assertRaises(BadKey):
                wrong in keys

    def test_hooks_are_not_seen_and_looking_changes_nothing(self):
        stack = Stack((CACHE, TOLD), ({}, {1: 5}))
        keys, twin = Keys(stack), stack.twin()
        self.assertEqual((1 in keys, 2 in keys, keys.listed(), keys.seen(), len(keys)), (True, False, [1], [5], 1))
        self.assertEqual(stack, twin)

    def test_lists_are_new(self):
        stack = Stack.plain({1: 2})
        keys = Keys(stack)
        keys.listed().append(3)
        keys.seen().clear()
        self.assertEqual((keys.listed(), keys.seen()), ([1], [2]))
        self.assertEqual((type(keys.listed()), type(keys.seen())), (list, list))

    def test_a_stack_of_nothing(self):
        keys = Keys(Stack.of(PLAIN, PLAIN, PLAIN))
        self.assertEqual((len(keys), keys.listed(), keys.seen(), 0 in keys), (0, [], [], False))

    def test_a_view_of_a_session(self):
        stack = Stack(LAYERS, CONTENTS)
        session = Session(stack)
        keys, again = session.view(), session.view()
        session.do(5, ("write", 4))
        session.do(-2, ("forget",))
        for some in (keys, again, session.view()):
            self.assertEqual(self.look(some), ([5], [4]))
        session.undo()
        self.assertEqual(self.look(keys), ([-2, 5], [7, 4]))
        stack[8] = 8
        self.assertEqual(self.look(keys), ([-2, 5], [7, 4]))
        self.assertEqual(self.look(Keys(stack)), ([-2, 8], [7, 8]))

    def test_views_in_an_attempt_and_after_it(self):
        session = Session(Stack(LAYERS, CONTENTS))
        outside = session.view()

        def deepest(here):
            here.do(2, ("write", 2))
            self.assertEqual(self.look(outside), ([-2, 1, 2], [7, 1, 2]))
            return here.view()

        def work(here):
            views.append(here.view())
            here.do(1, ("write", 1))
            views.append(here.attempt(deepest))
            for view in (outside, *views):
                self.assertEqual(self.look(view), ([-2, 1], [7, 1]))
            here.undo()
            self.assertEqual(self.look(outside), ([-2], [7]))
            here.do(-2, ("forget",))
            self.assertEqual(self.look(outside), ([], []))
            raise OwnError()

        for _ in range(2):
            views = []
            with self.assertRaises(OwnError):
                session.attempt(work)
            for view in (outside, *views):
                self.assertEqual(self.look(view), ([-2], [7]))
        session.do(6, ("write", 6))
        for view in (outside, *views):
            self.assertEqual(self.look(view), ([-2, 6], [7, 6]))

    def test_views_of_branches(self):
        session = Session(Stack.plain({1: 1}))
        branch = session.branch()
        here, there = session.view(), branch.view()
        session.do(2, ("write", 2))
        branch.do(3, ("write", 3))
        self.assertEqual((here.listed(), there.listed()), ([1, 2], [1, 3]))


class Model:
    """A session as a list of deeds, which are done anew with tests/reference.py whenever something is asked.

    Those before the index low cannot be undone.
    """

    def __init__(self, layers, contents, deeds=()):
        self.layers, self.contents, self.deeds, self.low = layers, contents, list(deeds), 0

    def look(self):
        held, journal = {}, []
        for key in range(-1, 4):
            held[key] = Column(self.layers, [content.get(key) for content in self.contents])
        for key, deed in self.deeds:
            journal.append((key, deed, held[key].do(deed)))
        columns = {key: column.held() for key, column in held.items()}
        return columns, journal, {key: column.seen() for key, column in held.items() if column.seen() is not None}


class ModelTest(unittest.TestCase):
    """Sessions that do, undo, branch and attempt at will, against the model."""

    def compare(self, session, view, model):
        columns, journal, found = model.look()
        stack = session.stack()
        self.assertEqual({key: stack.column(key) for key in columns}, columns)
        self.assertEqual((session.journal, list(session), len(session)), (journal, journal, len(journal)))
        for some in (view, session.view()):
            self.assertEqual((some.listed(), some.seen(), len(some)), (sorted(found), [found[key] for key in sorted(found)],
                                                                      len(found)))
            self.assertEqual([key in some for key in columns], [key in found for key in columns])

    def play(self, numbers, session, view, model, depth):
        for _ in range(numbers.randrange(9)):
            turn = numbers.randrange(10)
            if turn < 5:
                step = (numbers.randrange(-1, 4), numbers.choice(SHARED + [("write", 7), ("beneath", -3)]))
                model.deeds.append(step)
                self.assertEqual(session.do(*step), model.look()[1][-1][2])
            elif turn < 7 and len(model.deeds) > model.low:
                self.assertEqual(session.undo(), model.deeds.pop())
            elif turn < 7:
                with self.assertRaises(NothingDone):
                    session.undo()
            elif turn < 8:
                branch = session.branch()
                copy = Model(model.layers, model.contents, model.deeds)
                self.compare(branch, branch.view(), copy)
                self.play(numbers, branch, branch.view(), copy, 3)
            elif depth < 3:
                self.attempt(numbers, session, view, model, depth)
            self.compare(session, view, model)

    def attempt(self, numbers, session, view, model, depth):
        deeds, low, fails = list(model.deeds), model.low, numbers.randrange(2) == 0
        model.low = len(deeds)

        def work(here):
            self.assertIs(here, session)
            self.play(numbers, here, view, model, depth + 1)
            if fails:
                raise OwnError()
            return deeds

        if fails:
            with self.assertRaises(OwnError):
                session.attempt(work)
        else:
            self.assertIs(session.attempt(work), deeds)
        model.deeds, model.low = deeds, low

    def test_at_will(self):
        numbers = chance(61)
        for _ in range(250):
            many = numbers.randrange(1, 4)
            usual = [PLAIN, CACHE, HIDING, THROUGH, TOLD]
            layers = any_layers(numbers, many) if numbers.randrange(2) else tuple(numbers.choice(usual) for _ in range(many))
            contents = any_contents(numbers, many, 4)
            session = Session(Stack(layers, contents))
            view = session.view()
            model = Model(layers, contents)
            self.compare(session, view, model)
            for _ in range(3):
                self.play(numbers, session, view, model, 0)
            self.assertEqual(len(undoable(session)), len(model.deeds))
            self.assertEqual(session.stack(), Stack(layers, contents))


if __name__ == "__main__":
    unittest.main()

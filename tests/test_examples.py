"""The examples of the document, as they stand there."""

import unittest

STACKS = """
>>> from layermap.stacks import Stack, flat
>>> cache = Stack((('here', 'here', 'keep', None), ('here', 'here', 'look', ('told', 0))), ({}, {5: 7}))
>>> first = [cache[5], cache.column(5), cache.ask(5), cache.column(5), cache.ask(6), 6 in cache, len(cache)]
>>> cache.beneath(5, 9)
>>> written = cache.do(6, ('write', -3))
>>> second = [cache[5], cache.forget(5), cache[5], cache.forget(5), cache.visible(), flat(cache) == Stack.plain({6: -3, 5: 9})]
>>> hiding = Stack.of(('here', 'hide', 'look', None)) + Stack.plain({1: 1})
>>> [first, second, hiding.do(1, ('forget',), ('ask',), ('forget',), ('write', 4), ('has',)), hiding.column(1)]
[[7, (None, 7), 7, (7, 7), 0, True, 2], [7, True, 9, False, [5, 6], True], [True, None, False, None, True], (4, 1)]
"""

FEWEST = """
>>> from layermap.alike import Alike, Parts, alike, is_flat, soonest
>>> from layermap.fewest import fewest, fewest_size
>>> from layermap.stacks import Stack
>>> plain, through = ('here', 'here', 'look', None), ('both', 'both', 'look', None)
>>> double, single = Stack.of(through, plain), Stack.of(plain)
>>> facts = [soonest(double, single), soonest(double, single, shared=False), is_flat(double), is_flat(double, shared=False), fewest_size(double), fewest_size(double, shared=False)]
>>> deeds = (('write', 0), ('beneath', 1), ('ask',))
>>> shown = [Parts(3, deeds).shows(double, single), Parts(3, deeds[:2]).shows(double, single), Parts(3, deeds).shows(double, single, shared=False), Alike([((None, None), (None,))]).shows(double, single, shared=False)]
>>> pairs = [((None, None), (None,)), ((0, 0), (0,)), ((1, 1), (1,))]
>>> [facts, shown, Alike(pairs).shows(double, single, shared=False), Alike(pairs).shows(double, single), alike(double, single, shared=False).shows(double, single, shared=False), fewest(double, shared=False).kept]
[[3, None, False, True, 2, 1], [True, False, False, False], True, False, True, (1,)]
"""

CLASSES = """
>>> from layermap.classes import Classes, apart, classes
>>> from layermap.promises import Broken, Kept, promised, promises
>>> from layermap.stacks import Stack
>>> plain, cache = Stack.plain({}), Stack.of(('here', 'here', 'keep', None), ('here', 'here', 'look', None))
>>> tests = {(0, 1): (('has',),), (0, 2): (('ask',),), (1, 2): (('write', 5), ('beneath', None), ('ask',))}
>>> shown = [Classes([[(None,), ('hidden',)], [(0,)], [(1,)]], some).shows(plain) for some in (tests, {**tests, (1, 2): (('ask',),)}, {})]
>>> facts = [len(classes(plain)), classes(plain).shows(plain), shown, apart(plain, (0,), (1,)), apart(plain, (None,), ('hidden',)), apart(cache, (4, 5), (4, 6)), apart(cache, (4, 5), (4, 6), shared=False)]
>>> [facts, promises(cache)]
[[3, True, [False, True, False], 1, None, 2, 2], {'written': True, 'gone': False, 'match': True, 'steady': True, 'still': False, 'true': False, 'open': False}]
"""

PROMISES = """
>>> from layermap.promises import Broken, Kept, promised, promises
>>> from layermap.stacks import Stack
>>> cache, told = Stack.of(('here', 'here', 'keep', None), ('here', 'here', 'look', None)), Stack.of(('here', 'here', 'look', ('told', 0)))
>>> broken = [Broken(4, deeds).shows(cache, 'still') for deeds in ((('beneath', 1),), (), (('beneath', 9), ('ask',)))]
>>> kept = [Kept([(None, None), (0, None), (1, None)]).shows(cache, 'gone', shared=False), Kept([(None, None), (0, None), (1, None)]).shows(cache, 'gone'), Kept([(None, None)]).shows(cache, 'gone', shared=False)]
>>> [broken, kept, promises(cache, shared=False) == {word: True for word in ('written', 'gone', 'match', 'steady', 'still', 'true')}, promises(told)['match'], promised(told, 'match').shows(told, 'match')]
[[True, False, False], [True, False, False], True, False, True]
"""

SESSIONS = """
>>> from layermap.sessions import Keys, Session
>>> from layermap.stacks import Stack
>>> from layermap.texts import read_stack, stack_text
>>> stack = Stack((('here', 'hide', 'look', None), ('both', 'here', 'keep', ('told', 1))), ({5: 'hidden'}, {-2: 7, 5: 3}))
>>> session = Session(stack)
>>> keys = session.view()
>>> found = [session.do(5, ('ask',)), session.do(5, ('write', 4)), keys.listed(), keys.seen(), session.tried([(5, ('forget',)), (5, ('has',))]), session.undo(), keys.listed()]
>>> found = found + [len(keys), session.journal, Keys(stack).listed()]
>>> [found, stack_text(stack), read_stack(stack_text(stack)) == stack]
[[None, None, [-2, 5], [7, 4], [True, False], (5, ('write', 4)), [-2], 1, [(5, ('ask',), None)], [-2]], 'layer here hide look\\nlayer both here keep told 1\\nat -2 - 7\\nat 5 hidden 3\\n', True]
"""

HANDS = """
>>> from layermap.hands import Asunder, Hands, answers, least_steps, place_after, together, words_kept
>>> plain, cache, own = ('here', 'here', 'look', None), ('both', 'both', 'keep', None), ('here', 'hide', 'look', None)
>>> hands = [Hands((), (), plain), Hands((cache,), (cache,), plain), Hands((own,), (), plain)]
>>> steps = [(0, ('write', 5)), (1, ('ask',)), (0, ('write', 6)), (1, ('ask',))]
>>> facts = [words_kept(one) for one in hands]
>>> [[list(some.values()) for some in facts], answers(hands[1], steps), place_after(hands[1], steps), [least_steps(hands[1], word) for word in ('agreed', 'passed', 'own')], Asunder(steps[:3]).shows(hands[1], 'agreed')]
[[[True, True, True, True, True], [False, False, False, True, True], [False, False, False, True, True]], [None, 5, None, 5], ((6,), (5,), 6), [2, 1, None], True]
"""

SCOPES = """
>>> from layermap.scopes import Betrayal, entered, first_betrayal, is_faithful, left
>>> from layermap.stacks import Stack
>>> stack, own = Stack.plain({1: 1, 2: 2}), ('here', 'hide', 'look', None)
>>> scope = entered(stack, own)
>>> found = [scope.forget(1), scope.do(3, ('write', 4)), [scope.column(key) for key in (1, 2, 3)]]
>>> [found, left(scope) == Stack.plain({2: 2, 3: 4}), left(scope, poured=False) == stack, is_faithful(stack, own), first_betrayal(stack, ('here', 'here', 'look', None)), first_betrayal(Stack.of(('here', 'here', 'look', ('told', 0))), own), Betrayal(1, (('forget',),), True).shows(stack, ('both', 'hide', 'look', None))]
[[True, [None], [('hidden', 1), (None, 2), (4, None)]], True, True, True, 1, 3, False]
"""


def load_tests(loader, tests, pattern):
    import doctest

    parser = doctest.DocTestParser()
    examples = (
        ("stacks", STACKS), ("fewest", FEWEST), ("classes", CLASSES), ("promises", PROMISES),
        ("sessions", SESSIONS), ("hands", HANDS), ("scopes", SCOPES),
    )
    for name, text in examples:
        tests.addTest(doctest.DocTestCase(parser.get_doctest(text, {}, name, None, None)))
    return tests


if __name__ == "__main__":
    unittest.main()

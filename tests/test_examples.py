"""The examples of the document, as they stand there."""

import unittest

STACKS = """
>>> from layermap.stacks import Stack, flat
>>> cache = Stack((('here', 'here', 'keep', None), ('here', 'here', 'look', ('told', 0))), ({}, {5: 7}))
>>> first = [cache[5], cache.column(5), cache.ask(5), cache.column(5), cache.ask(6), 6 in cache, len(cache)]
>>> cache.beneath(5, 9)
>>> written = cache.do(6, ('write', -3))
>>> second = [cache[5], cache.forget(5), cache[5], cache.forget(5), cache.visible(), flat(cache) == Stack.plain({6: -3, 5: 9})]
>>> hiding = Stack.of(('here', 'hide', 'look', None)) + Stack.plain({1: 1})
>>> [first, second, hiding.do(1, ('forget',), ('ask',), ('forget',), ('write', 4), ('has',)), hiding.column(1)]
[[7, (None, 7), 7, (7, 7), 0, True, 2], [7, True, 9, False, [5, 6], True], [True, None, False, None, True], (4, 1)]
"""

# What speaks of layermap.fewest is left out.
ALIKE = """
>>> from layermap.alike import Alike, Parts, alike, is_flat, soonest
>>> from layermap.stacks import Stack
>>> plain, through = ('here', 'here', 'look', None), ('both', 'both', 'look', None)
>>> double, single = Stack.of(through, plain), Stack.of(plain)
>>> facts = [soonest(double, single), soonest(double, single, shared=False), is_flat(double), is_flat(double, shared=False)]
>>> deeds = (('write', 0), ('beneath', 1), ('ask',))
>>> shown = [Parts(3, deeds).shows(double, single), Parts(3, deeds[:2]).shows(double, single), Parts(3, deeds).shows(double, single, shared=False), Alike([((None, None), (None,))]).shows(double, single, shared=False)]
>>> pairs = [((None, None), (None,)), ((0, 0), (0,)), ((1, 1), (1,))]
>>> [facts, shown, Alike(pairs).shows(double, single, shared=False), Alike(pairs).shows(double, single), alike(double, single, shared=False).shows(double, single, shared=False)]
[[3, None, False, True], [True, False, False, False], True, False, True]
"""


def load_tests(loader, tests, pattern):
    import doctest

    parser = doctest.DocTestParser()
    for name, text in (("stacks", STACKS), ("alike", ALIKE)):
        tests.addTest(doctest.DocTestCase(parser.get_doctest(text, {}, name, None, None)))
    return tests


if __name__ == "__main__":
    unittest.main()

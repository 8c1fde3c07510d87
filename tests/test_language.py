"""The files of the package: what the interface lists for them, and rules of form that a script can see."""

import ast
import inspect
import os
import unittest

import layermap
from layermap import alike, classes, errors, fewest, hands, promises, scopes, sessions, stacks, texts

FOLDER = os.path.dirname(layermap.__file__)
OTHER_WORDS = {
    "register", "mro", "elements", "open", "input", "law", "version_info", "with_traceback", "add_note", "eval", "exec",
    "globals", "locals", "vars", "compile", "print", "float", "filter", "hash", "id", "object",
}
BARRED = ("dataclass", "overload", "contextmanager", "metaclass=", "(type)", "Meta", "typing", "namedtuple", "_wall")


def sources():
    for name in sorted(os.listdir(FOLDER)):
        if name.endswith(".py"):
            with open(os.path.join(FOLDER, name), encoding="utf-8") as file:
                yield name, file.read()


class InterfaceTest(unittest.TestCase):
    def test_functions_and_classes_are_defined_in_their_file(self):
        listed = {
            errors: ["LayerError", "BadStack", "BadKey", "BadValue", "Missing", "BadDeed", "BadColumn", "BadPromise",
                     "NothingDone", "BadSteps", "BadText", "BadHands", "BadLayer", "BadFlag"],
            stacks: ["Stack", "flat"],
            alike: ["alike", "soonest", "is_flat", "Alike", "Parts"],
            fewest: ["fewest", "fewest_size", "Fewest"],
            classes: ["classes", "apart", "Classes"],
            promises: ["promised", "promises", "Kept", "Broken"],
            sessions: ["Keys", "Session"],
            texts: ["stack_text", "read_stack"],
            hands: ["Hands", "answers", "place_after", "together", "least_steps", "words_kept", "Together", "Asunder"],
            scopes: ["entered", "left", "faithful", "is_faithful", "first_betrayal", "Faithful", "Betrayal"],
        }
        for module, names in listed.items():
            for name in names:
                self.assertEqual(getattr(module, name).__module__, module.__name__, name)

    def test_methods_are_defined_in_their_class(self):
        listed = {
            stacks.Stack: ["__init__", "of", "plain", "layers", "__eq__", "__iter__", "__getitem__", "__setitem__", "__len__",
                           "__contains__", "visible", "column", "ask", "forget", "beneath", "do", "__ior__", "__add__", "twin"],
            alike.Alike: ["__init__", "__len__", "__iter__", "__eq__", "shows"],
            alike.Parts: ["__init__", "__len__", "__eq__", "shows"],
            fewest.Fewest: ["__init__", "__iter__", "__eq__", "shows"],
            classes.Classes: ["__init__", "__len__", "__iter__", "__eq__", "shows"],
            promises.Kept: ["__init__", "__len__", "__iter__", "__eq__", "shows"],
            promises.Broken: ["__init__", "__len__", "__eq__", "shows"],
            sessions.Keys: ["__init__", "__len__", "__contains__", "listed", "seen"],
            sessions.Session: ["__init__", "journal", "__len__", "__iter__", "do", "view", "stack", "undo", "branch",
                               "attempt", "tried"],
            hands.Hands: ["__init__", "__eq__"],
            hands.Together: ["__init__", "__eq__", "shows"],
            hands.Asunder: ["__init__", "__eq__", "shows"],
            scopes.Faithful: ["__init__", "__eq__", "shows"],
            scopes.Betrayal: ["__init__", "__eq__", "shows"],
        }
        for one, names in listed.items():
            for name in names:
                self.assertIn(name, vars(one), one)
        self.assertIsInstance(vars(stacks.Stack)["of"], classmethod)
        self.assertIsInstance(vars(stacks.Stack)["plain"], classmethod)
        self.assertIsInstance(vars(stacks.Stack)["layers"], property)
        self.assertIsInstance(vars(sessions.Session)["journal"], property)

    def test_parameters(self):
        listed = {
            stacks.Stack: "(layers, contents=None)", stacks.Stack.of: "(*layers)", stacks.Stack.plain: "(pairs)",
            stacks.Stack.column: "(self, key)", stacks.Stack.ask: "(self, key)", stacks.Stack.forget: "(self, key)",
            stacks.Stack.beneath: "(self, key, value)", stacks.Stack.do: "(self, key, *deeds)",
            stacks.Stack.visible: "(self)", stacks.Stack.twin: "(self)", stacks.flat: "(stack)",
            alike.alike: "(one, other, *, shared=True)", alike.soonest: "(one, other, *, shared=True)",
            alike.is_flat: "(stack, *, shared=True)", alike.Alike: "(pairs)", alike.Parts: "(key, deeds)",
            alike.Alike.shows: "(self, one, other, *, shared=True)",
            alike.Parts.shows: "(self, one, other, *, shared=True)",
            fewest.fewest: "(stack, *, shared=True)", fewest.fewest_size: "(stack, *, shared=True)",
            fewest.Fewest: "(kept, pairs, parts)", fewest.Fewest.shows: "(self, stack, *, shared=True)",
            classes.classes: "(stack, *, shared=True)", classes.apart: "(stack, one, other, *, shared=True)",
            classes.Classes: "(groups, tests)", classes.Classes.shows: "(self, stack, *, shared=True)",
            promises.promised: "(stack, promise, *, shared=True)", promises.promises: "(stack, *, shared=True)",
            promises.Kept: "(columns)", promises.Kept.shows: "(self, stack, promise, *, shared=True)",
            promises.Broken: "(key, deeds)", promises.Broken.shows: "(self, stack, promise, *, shared=True)",
            sessions.Keys: "(stack)", sessions.Keys.listed: "(self)", sessions.Keys.seen: "(self)",
            sessions.Session: "(stack)", sessions.Session.do: "(self, key, deed)", sessions.Session.view: "(self)",
            sessions.Session.stack: "(self)", sessions.Session.undo: "(self)", sessions.Session.branch: "(self)",
            sessions.Session.attempt: "(self, work)", sessions.Session.tried: "(self, steps)",
            texts.stack_text: "(stack)", texts.read_stack: "(text)",
            hands.Hands: "(first, second, base)", hands.answers: "(hands, steps)", hands.place_after: "(hands, steps)",
            hands.together: "(hands, word)", hands.least_steps: "(hands, word)", hands.words_kept: "(hands)",
            hands.Together: "(places)", hands.Together.shows: "(self, hands, word)",
            hands.Asunder: "(steps)", hands.Asunder.shows: "(self, hands, word)",
            scopes.entered: "(stack, layer)", scopes.left: "(stack, *, poured=True)", scopes.faithful: "(stack, layer)",
            scopes.is_faithful: "(stack, layer)", scopes.first_betrayal: "(stack, layer)",
            scopes.Faithful: "(pairs)", scopes.Faithful.shows: "(self, stack, layer)",
            scopes.Betrayal: "(key, deeds, poured)", scopes.Betrayal.shows: "(self, stack, layer)",
        }
        for thing, text in listed.items():
            self.assertEqual(str(inspect.signature(thing)), text, thing)


class FormTest(unittest.TestCase):
    def test_the_folder_holds_plain_files_only(self):
        names = [name for name in os.listdir(FOLDER) if name != "__pycache__"]
        self.assertEqual(sorted(names), [name for name, _ in sources()])

    def test_size_and_characters(self):
        for name, text in sources():
            lines = text.split("\n")
            self.assertLessEqual(len(lines), 399, name)
            self.assertTrue(all(len(line) <= 120 for line in lines), name)
            self.assertTrue(all(sign == "\n" or " " <= sign <= "~" for sign in text), name)
            self.assertTrue(text.endswith("\n") and "%" not in text, name)
            for word in BARRED:
                self.assertNotIn(word, text, name)

    def test_functions_have_at_most_forty_lines(self):
        for name, text in sources():
            for node in ast.walk(ast.parse(text)):
                if isinstance(node, ast.FunctionDef):
                    self.assertLessEqual(node.end_lineno - node.lineno + 1, 40, (name, node.name))

    def test_imports_name_the_file_that_defines_the_name(self):
        defined = {}
        for name, text in sources():
            found = defined.setdefault("layermap." + name[:-3], set())
            for node in ast.parse(text).body:
                if isinstance(node, (ast.FunctionDef, ast.ClassDef)):
                    found.add(node.name)
                elif isinstance(node, ast.Assign):
                    found.update(target.id for target in node.targets)
        for name, text in sources():
            for node in ast.walk(ast.parse(text)):
                self.assertNotIsInstance(node, ast.Import, name)
                if isinstance(node, ast.ImportFrom):
                    self.assertEqual(node.level, 0, name)
                    for alias in node.names:
                        self.assertIn(alias.name, defined[node.module], name)

    def test_names_and_constructs(self):
        barred = (ast.AsyncFunctionDef, ast.Global, ast.Set, ast.JoinedStr, ast.Match, ast.Div)
        for name, text in sources():
            for node in ast.walk(ast.parse(text)):
                self.assertNotIsInstance(node, barred, name)
                if isinstance(node, ast.Name):
                    self.assertNotIn(node.id, OTHER_WORDS, name)
                if isinstance(node, ast.Try):
                    self.assertEqual(node.handlers, [], name)
                    self.assertEqual({type(row) for row in node.finalbody}, {ast.Assign}, name)
                if isinstance(node, ast.Constant):
                    self.assertNotIsInstance(node.value, (float, complex), name)
                if isinstance(node, ast.FunctionDef):
                    told = [ast.unparse(one) for one in node.decorator_list]
                    self.assertIn(told, ([], ["property"], ["classmethod"]), (name, node.name))


if __name__ == "__main__":
    unittest.main()

"""The whole program: its interface, the example of the document, and points 1 and 2."""

import copy
import doctest
import importlib
import inspect
import os
import unittest

from examples import ECHO, FIRST, GREATEST, IN_TURN, case_of, threshold
from orderneed.cases import Case
from orderneed.certificates import accepts, certificate
from orderneed.needs import deaf_names, harm, is_enough, least_promise, noticed
from orderneed.parcels import Receiver, Sender, replay, resume
from orderneed.promises import Promise, all_items, keeps
from orderneed.texts import format_program, parse_program

TOP = os.path.dirname(os.path.dirname(os.path.abspath(__file__)))
INTERFACE = {
    "errors": {"OrderError": None, "TextError": ["line"], "Malformed": ["line"], "Misplaced": ["line"],
               "Unfit": ["line"], "Doubled": ["line"], "TooMany": ["line"], "Changed": ["line"],
               "Repeated": ["line", "word"], "Unknown": ["line", "word"], "Missing": ["state", "name", "position"],
               "InvalidCase": None, "InvalidPromise": None, "InvalidKept": None, "InvalidParcel": None,
               "TooLarge": None, "Full": None, "UnknownName": ["name"]},
    "programs": {"Program": ["names", "outputs", "states", "rules"], "start": ["program"],
                 "position": ["kept", "number"], "step": ["program", "configuration", "message"],
                 "run": ["program", "messages"]},
    "texts": {"parse_program": ["text"], "format_program": ["program"]},
    "cases": {"looks_same": ["view", "first", "second"], "same_records": ["views", "first", "second"],
              "Case": ["programs", "views"]},
    "promises": {"all_items": ["names"], "Promise": ["names", "items"], "keeps": ["promise", "first", "second"],
                 "shows_harm": ["item", "sent", "came"]},
    "search": {"shape": ["pair"], "states_reached": ["program"]},
    "needs": {"harm": ["case", "item"], "least_promise": ["case"], "is_enough": ["case", "promise"],
              "noticed": ["case", "name"], "deaf_names": ["case"]},
    "certificates": {"certificate": ["case", "index", "item"], "accepts": ["case", "index", "item", "value"]},
    "parcels": {"Sender": ["promise"], "Receiver": ["promise"], "resume": ["promise", "kept"],
                "replay": ["promise", "text"]},
}
METHODS = {"Sender": {"send": ["message"]},
           "Receiver": {"come": ["parcel"], "passed": [], "missing": [], "kept": [], "journal": []}}


class InterfaceTest(unittest.TestCase):
    def test_names_and_arguments(self):
        for file, things in INTERFACE.items():
            module = importlib.import_module("orderneed." + file)
            for name, expected in things.items():
                thing = getattr(module, name)
                self.assertEqual(thing.__module__, "orderneed." + file)
                if expected is not None:
                    self.assertEqual(list(inspect.signature(thing).parameters), expected)

    def test_methods(self):
        module = importlib.import_module("orderneed.parcels")
        for name, methods in METHODS.items():
            for method, expected in methods.items():
                found = getattr(module, name).__dict__[method]
                self.assertEqual(list(inspect.signature(found).parameters), ["self", *expected])
        self.assertIsInstance(module.Sender.__dict__["sent_count"], property)

    def test_the_package_holds_nothing_but_its_files(self):
        folder = os.path.join(TOP, "orderneed")
        names = [name for name in os.listdir(folder) if name != "__pycache__"]
        self.assertEqual([name for name in names if not name.endswith(".py")], [])
        self.assertLessEqual({file + ".py" for file in INTERFACE} | {"__init__.py"}, set(names))


class ExampleTest(unittest.TestCase):
    def test_example_of_the_document(self):
        text = "hears a\noutput o s\nstate e 0\nstate m 1\nrule e a 0 m 0"
        text = text + "\nrule m a 0 m 1\nrule m a 1 m 0\nrule m a 2 m 1 write o s 1"
        case = Case([parse_program(text)], [["ordered"]])
        self.assertEqual(least_promise(case).entries, (("order", "a", "a", "less"),))
        self.assertEqual(certificate(case, 0, ("once", "a")),
                         ("safe", [((1, (0,)), 0), ((1, (1,)), 0)], [((1, (0,)), (1, (0,)))]))
        self.assertEqual(repr(least_promise(case).entries), "(('order', 'a', 'a', 'less'),)")
        self.assertEqual(repr(certificate(case, 0, ("once", "a"))),
                         "('safe', [((1, (0,)), 0), ((1, (1,)), 0)], [((1, (0,)), (1, (0,)))])")

    def test_examples_of_the_readme(self):
        with open(os.path.join(TOP, "README.md"), encoding="utf-8") as readme:
            # The fences would be read as what an example prints.
            text = readme.read().replace("```", "")
        test = doctest.DocTestParser().get_doctest(text, {}, "README.md", "README.md", 0)
        self.assertGreater(len(test.examples), 10)
        told = []
        doctest.DocTestRunner().run(test, out=told.append)
        self.assertEqual("".join(told), "")


class ListsAndTuplesTest(unittest.TestCase):
    """Lists may be passed for tuples, and tuples for lists."""

    def test_cases(self):
        listed = Case([GREATEST, GREATEST], [["ordered"], ["ignored"]])
        other = Case((GREATEST, GREATEST), (("ordered",), ("ignored",)))
        self.assertEqual((listed.programs, listed.views), (other.programs, other.views))
        for item in all_items(["a"]):
            self.assertEqual(harm(listed, item), harm(other, list(item)))
            self.assertEqual(certificate(listed, 0, item), certificate(other, 0, list(item)))
        self.assertEqual(noticed(listed, "a"), noticed(other, "a"))

    def test_promises_and_messages(self):
        listed = Promise(["a", "b"], [["order", "a", "b", "less"], ["once", "a"]])
        other = Promise(("a", "b"), (("once", "a"), ("order", "a", "b", "less")))
        self.assertEqual(listed.entries, other.entries)
        for first, second in ((("a", 1), ("b", 2)), (("a", 2), ("b", 1)), (("b", 2), ("a", 1))):
            self.assertEqual(keeps(listed, list(first), list(second)), keeps(other, first, second))
            one, two = Sender(listed), Sender(other)
            self.assertEqual([one.send(list(first)), one.send(list(second))], [two.send(first), two.send(second)])

    def test_what_is_returned_may_be_passed(self):
        case = case_of(ECHO, threshold(True, True, False, False))
        promise = least_promise(case)
        self.assertTrue(is_enough(case, promise))
        self.assertTrue(is_enough(case, Promise(promise.names, promise.entries)))
        sender, receiver = Sender(promise), Receiver(promise)
        for message in harm(case, promise.entries[0])[1]:
            receiver.come(sender.send(message))
        self.assertEqual(resume(promise, receiver.kept()).kept(), receiver.kept())
        self.assertEqual(replay(promise, receiver.journal()).kept(), receiver.kept())


class UnchangedTest(unittest.TestCase):
    """No argument is changed, nothing that was returned is, and the same question has the same answer."""

    def answers(self, case, promise):
        found = [deaf_names(case), least_promise(case).entries, is_enough(case, promise)]
        for name in case.programs[0].names:
            found.append(noticed(case, name))
        for item in all_items(case.programs[0].names):
            found.append(harm(case, item))
            for index in range(len(case.programs)):
                value = certificate(case, index, item)
                found.extend([value, accepts(case, index, item, value)])
        found.extend(format_program(program) for program in case.programs)
        return found

    def spoil(self, value):
        """Change all lists in a value."""
        if isinstance(value, (list, tuple)):
            for part in value:
                self.spoil(part)
        if isinstance(value, list):
            value.append("spoilt")
            value.reverse()

    def test_answers(self):
        for programs in ([ECHO, FIRST], [IN_TURN], [GREATEST], [threshold(False, True, False, True), ECHO, FIRST]):
            case = case_of(*programs)
            promise = Promise(case.programs[0].names, [])
            before = copy.deepcopy((case.programs, case.views, promise.names, promise.entries))
            first = self.answers(case, promise)
            expected = copy.deepcopy(first)
            again = self.answers(case, promise)
            self.assertEqual(first, expected)
            self.assertEqual(again, expected)
            self.spoil(first)
            self.assertEqual(again, expected)
            self.assertEqual(self.answers(case, promise), expected)
            self.assertEqual((case.programs, case.views, promise.names, promise.entries), before)


if __name__ == "__main__":
    unittest.main()

"""What the document promises over the whole program: its names, 0.3 and 0.4."""

import ast
import copy
import importlib
import inspect
import pathlib
import unittest

from runsback.effects import lot_of
from runsback.errors import RunsError
from runsback.keepers import Keeper
from runsback.programs import Program
from runsback.stands import Stand
from runsback.webs import web_of
from runsback.worlds import World
from tests.samples import nested, odd_integers, odd_strings, odd_things

FOLDER = pathlib.Path(__file__).resolve().parent.parent / "runsback"
FUNCTIONS = {
    "rows": "net(row) undone(row) joined(rows) power(row,times) turned(row,by) earlier(row,second) root(row)",
    "programs": "", "keepers": "", "stands": "", "desks": "",
    "plans": "is_plan(program,thing) letters_of(program,plan) row_of(program,plan) net_of(program,plan)",
    "flows": "flow(program) detours(program)",
    "shutters": "shutter(program,row) is_shutter(program,row,thing)",
    "effects": "effects(program) lot_of(deeds,rows) has(effects,row) first(effects) at(effects,number) many(effects) count(effects,length)",
    "algebra": "both(one,other) one_of(one,other) less(one,other) behind(one,other) backward(one) again(one)",
    "comparing": "within(one,other) same(one,other) is_leading(one,other,thing) beyond(one,other) leading(one,other)",
    "prices": "cheapest(program,prices,row) plan_for(program,row) heights(program,prices) is_floor(program,prices,row,least,thing)",
    "worlds": "led(world,standing,row) order(world,row) move_of(world,row) beside(one,other)",
    "covers": "ended(world,program,plan,standing) reached(world,program,standing) cover(world,program,standing) "
              "way(world,program,standing,goal) is_cover(world,program,standing,thing)",
    "webs": "web_of(deeds,rows) keeps(web,row) inside(one,other) basis(web) index(web) least_power(web,row) common(one,other) "
            "joint(one,other) as_world(web)",
    "tables": "product(deeds,rows,row) is_product(deeds,rows,row,thing)",
    "homes": "home(deeds,rows,denied) is_home(deeds,rows,denied,thing)",
    "rings": "terms(program) sure(program,row) within_finite(one,other) wound(program) beyond_finite(one,other)",
    "guests": "plan_in(world,program,row)",
    "towers": "stand(tower,row) denial(program,row) is_denial(program,row,thing)",
    "sums": "sum_of(deeds,row) sure_sums(program,row) is_sum_paper(program,row,thing) is_sum_denial(program,row,thing) "
            "sum_paper(program,row) sum_denial(program,row) sum_world(deeds,m,weights)",
    "games": "wins(world,program,standing,goals) is_manner(world,program,standing,goals,thing) is_answer(world,program,standing,goals,thing) "
             "manner(world,program,standing,goals) answer(world,program,standing,goals)",
    "texts": "program_text(program) world_text(world)",
    "reading": "read_program(text) read_world(text)",
}
CLASSES = {
    "programs": {"Program": {"__init__": 3, "__eq__": 1}}, "effects": {"Effects": {"__eq__": 1}},
    "worlds": {"World": {"__init__": 2, "__eq__": 1}}, "webs": {"Web": {"__eq__": 1}},
    "keepers": {"Keeper": {"__init__": 1, "tell": 2, "back": 0, "reports": 0, "answer": 1, "paper": 1}},
    "stands": {"Stand": {"__init__": 2, "row": 0, "go": 1, "run": 2, "back": 1, "reach": 1, "copy": 0, "trying": 1}},
    "desks": {"Desk": {"__init__": 0, "tell": 1, "undoable": 0}},
}
W = World("ab", {"a": (1, 2, 0), "b": (0, 2, 1)})
P = Program("ab", {"x": (("do", "b"),)}, (("loop", (("do", "a"), ("part", "x"))), ("other", ((("do", "B"),), ()))))
LOT = lot_of("ab", ["a", "bA", ""])
# An argument that may be anything stands in the place of each THING; all others are right ones.
THING = object()
CALLS = [
    ("rows", "net", [THING]), ("rows", "undone", [THING]), ("rows", "joined", [THING]), ("rows", "joined", [["a", THING]]),
    ("rows", "power", [THING, 1]), ("rows", "power", ["a", THING]), ("rows", "turned", [THING, "a"]), ("rows", "turned", ["a", THING]),
    ("rows", "earlier", [THING, "a"]), ("rows", "earlier", ["a", THING]), ("rows", "root", [THING]),
    ("programs", "Program", [THING, {}, ()]), ("programs", "Program", ["ab", THING, ()]), ("programs", "Program", ["ab", {}, THING]),
    ("programs", "Program", ["ab", {}, (THING,)]), ("programs", "Program", ["ab", {"x": THING}, ()]),
    ("programs", "Program", ["ab", {}, (("do", THING),)]), ("programs", "Program", ["ab", {}, (("loop", THING),)]),
    ("programs", "Program", ["ab", {}, (("either", THING),)]), ("programs", "Program", ["ab", {}, (("part", THING),)]),
    ("plans", "is_plan", [P, THING]), ("plans", "letters_of", [P, THING]), ("plans", "row_of", [P, THING]), ("plans", "net_of", [P, THING]),
    ("plans", "is_plan", [P, (THING, (1, ()))]), ("plans", "is_plan", [P, (((THING, 1),), (1, ()))]), ("plans", "is_plan", [P, ((), (THING, ()))]),
    ("shutters", "shutter", [P, THING]), ("shutters", "is_shutter", [P, THING, None]), ("shutters", "is_shutter", [P, "a", THING]),
    ("shutters", "is_shutter", [P, "a", (THING, [[0]])]), ("shutters", "is_shutter", [P, "a", ([(0, 0)], [THING])]),
    ("effects", "lot_of", [THING, ["a"]]), ("effects", "lot_of", ["ab", THING]), ("effects", "lot_of", ["ab", [THING]]),
    ("effects", "has", [LOT, THING]), ("effects", "count", [LOT, THING]), ("effects", "at", [LOT, THING]),
    ("comparing", "is_leading", [P, P, THING]), ("comparing", "is_leading", [P, P, [THING]]), ("comparing", "is_leading", [P, P, [(0, THING)]]),
    ("prices", "cheapest", [P, THING, "a"]), ("prices", "cheapest", [P, dict.fromkeys("aAbB", 1), THING]), ("prices", "heights", [P, THING]),
    ("prices", "heights", [P, {"a": THING, "A": 1, "b": 1, "B": 1}]), ("prices", "plan_for", [P, THING]),
    ("prices", "is_floor", [P, THING, "a", 1, {}]), ("prices", "is_floor", [P, dict.fromkeys("aAbB", 1), THING, 1, {}]),
    ("prices", "is_floor", [P, dict.fromkeys("aAbB", 1), "a", 1, THING]), ("prices", "is_floor", [P, dict.fromkeys("aAbB", 1), "a", 1, {(0, 0): THING}]),
    ("worlds", "World", [THING, {"a": (0,)}]), ("worlds", "World", ["a", THING]), ("worlds", "World", ["a", {"a": THING}]),
    ("worlds", "World", ["a", {"a": (0, THING)}]), ("worlds", "led", [W, THING, "a"]), ("worlds", "led", [W, 0, THING]),
    ("worlds", "move_of", [W, THING]), ("worlds", "order", [W, THING]), ("covers", "ended", [W, P, THING, 0]),
    ("covers", "ended", [W, P, ((), (1, ())), THING]), ("covers", "reached", [W, P, THING]), ("covers", "cover", [W, P, THING]),
    ("covers", "way", [W, P, THING, 0]), ("covers", "way", [W, P, 0, THING]), ("covers", "is_cover", [W, P, THING, []]),
    ("covers", "is_cover", [W, P, 0, THING]), ("covers", "is_cover", [W, P, 0, [THING]]), ("covers", "is_cover", [W, P, 0, [(0, THING)]]),
    ("webs", "web_of", [THING, []]), ("webs", "web_of", ["ab", THING]), ("webs", "web_of", ["ab", ["a", THING]]),
    ("webs", "keeps", [web_of("ab", ["a"]), THING]), ("webs", "least_power", [web_of("ab", ["a"]), THING]),
    ("tables", "product", [THING, [], ""]), ("tables", "product", ["ab", THING, ""]), ("tables", "product", ["ab", ["a"], THING]),
    ("tables", "is_product", ["ab", ["a"], "a", THING]), ("tables", "is_product", ["ab", ["a"], "a", (THING,)]),
    ("tables", "is_product", ["ab", ["a"], "a", ((THING,),)]), ("homes", "home", [THING, [], []]), ("homes", "home", ["ab", THING, []]),
    ("homes", "home", ["ab", [], THING]), ("homes", "is_home", ["ab", ["a"], ["b"], THING]), ("homes", "is_home", ["ab", THING, [], W]),
    ("rings", "sure", [P, THING]), ("guests", "plan_in", [W, P, THING]), ("towers", "stand", [((W,), (0,), True), THING]),
    ("towers", "denial", [P, THING]), ("towers", "is_denial", [P, THING, []]), ("towers", "is_denial", [P, "b", THING]),
    ("towers", "is_denial", [P, "b", [THING, THING]]), ("towers", "is_denial", [P, "b", [((W,), (THING,), True)] * 2]),
    ("towers", "is_denial", [P, "b", [((W, THING), (0, 0), True)] * 2]), ("towers", "is_denial", [P, "b", [((W,), (0,), THING)] * 2]),
    ("sums", "sum_of", [THING, "a"]), ("sums", "sum_of", ["ab", THING]), ("sums", "sure_sums", [P, THING]), ("sums", "sum_paper", [P, THING]),
    ("sums", "sum_denial", [P, THING]), ("sums", "is_sum_paper", [P, THING, 0]), ("sums", "is_sum_paper", [P, "a", THING]),
    ("sums", "is_sum_paper", [P, "a", (0, THING)]), ("sums", "is_sum_paper", [P, "a", (THING, (0,))]), ("sums", "is_sum_paper", [P, "a", (0, (THING,))]),
    ("sums", "is_sum_denial", [P, "a", THING]), ("sums", "is_sum_denial", [P, "a", [THING, THING]]), ("sums", "is_sum_denial", [P, "a", [(2, THING)] * 2]),
    ("sums", "is_sum_denial", [P, "a", [(THING, (1, 1))] * 2]), ("sums", "is_sum_denial", [P, "a", [(2, (THING, 1))] * 2]),
    ("sums", "sum_world", [THING, 2, (0, 0)]), ("sums", "sum_world", ["ab", THING, (0, 0)]), ("sums", "sum_world", ["ab", 2, THING]),
    ("sums", "sum_world", ["ab", 2, (0, THING)]), ("games", "wins", [W, P, THING, ()]), ("games", "wins", [W, P, 0, THING]),
    ("games", "manner", [W, P, 0, (THING,)]), ("games", "answer", [W, P, 0, (0, THING)]), ("games", "is_manner", [W, P, 0, (0,), THING]),
    ("games", "is_manner", [W, P, 0, (0,), {(0, 0): THING}]), ("games", "is_manner", [W, P, 0, (0,), {(0, 0): (THING, 0)}]),
    ("games", "is_answer", [W, P, 0, (0,), THING]), ("games", "is_answer", [W, P, 0, (0,), {(0, 0): THING}]), ("keepers", "Keeper", [THING]),
    ("reading", "read_program", [THING]), ("reading", "read_world", [THING]), ("stands", "Stand", [W, THING]),
]
METHODS = [
    (lambda: Keeper("ab"), "tell", [THING, True]), (lambda: Keeper("ab"), "tell", ["a", THING]), (lambda: Keeper("ab"), "answer", [THING]),
    (lambda: Keeper("ab"), "paper", [THING]), (lambda: Stand(W, 0), "go", [THING]), (lambda: Stand(W, 0), "run", [P, THING]),
    (lambda: Stand(W, 0), "back", [THING]), (lambda: importlib.import_module("runsback.desks").Desk(), "tell", [THING]),
]


def with_thing(told, thing):
    """What is told, with the thing in the place of THING."""
    if told is THING:
        return thing
    if isinstance(told, (list, tuple)):
        return type(told)([with_thing(item, thing) for item in told])
    if isinstance(told, dict):
        return {key: with_thing(item, thing) for key, item in told.items()}
    return told


def all_things():
    """Objects of many kinds, nested ones and such as are nearly right among them."""
    found = odd_things() + odd_integers() + odd_strings()
    found += ["", "a", "ab", "aB", "c", "ba", "a" * 200, "a" * 13, "deeds ab\n", "world a\na 0\n", "names", "a b", 24, 25, -2, 10 ** 60 - 1]
    found += [("do", "aB"), (("do", "a"),), ((("do", "a"),),), (("do", "a"), ("do", "c")), (("part", "x"),), ((), (1, ())), ((((), ()), 1),)]
    found += [(0, 0), (0, 1), (1, 0), (0, 24), ((0, 0),), [(0, 0)], [(0, 0), (0, 0)], [(0, 0), (0, 1)], (0,), (1,), (2, 0), (0, 2), [0], ["a", "b"]]
    found += [{(0, 0): 0}, {(0, 0): (0, 0)}, {(0, 0): None}, {"a": (0, 1), "b": (1, 0)}, {"a": 1, "A": 1, "b": 1, "B": 100}, {"x": ()}]
    found += [((W,), (0,), True), [((W,), (0,), True)], (2, (1, 1)), [(2, (1, 1))], (0, (0,)), ([(0, 0)], [[0]]), ((1,),), ((1, -1), (2,))]
    found += [Keeper("ab"), Stand(W, 0), P, W, RunsError("a"), frozenset("ab").union, b"deeds ab\n", bytearray(b"ab"), range(2), {}.items(), {0: 0}.keys()]
    found += [nested(lambda thing: ("loop", (thing,)), 20), nested(lambda thing: ((thing, thing),), 12), nested(lambda thing: {0: thing}, 40)]
    found += [nested(lambda thing: [thing, 0], 40), nested(lambda thing: (0, thing), 40), nested(lambda thing: (thing, True), 40)]
    return found


class InterfaceTest(unittest.TestCase):
    def test_functions(self):
        for name, told in FUNCTIONS.items():
            module = importlib.import_module("runsback." + name)
            tree = ast.parse((FOLDER / (name + ".py")).read_text())
            defined = {node.name: node for node in tree.body if isinstance(node, ast.FunctionDef)}
            for each in told.split():
                function, arguments = each.rstrip(")").split("(")
                self.assertIn(function, defined)
                parameters = inspect.signature(getattr(module, function)).parameters
                self.assertEqual(len(parameters), len(arguments.split(",")), each)

    def test_classes(self):
        for name, told in CLASSES.items():
            tree = ast.parse((FOLDER / (name + ".py")).read_text())
            defined = {node.name: node for node in tree.body if isinstance(node, ast.ClassDef)}
            for each, methods in told.items():
                own = {node.name: node for node in defined[each].body if isinstance(node, ast.FunctionDef)}
                for method, many in methods.items():
                    self.assertEqual(len(own[method].args.args), many + 1, (each, method))

    def test_no_errors_elsewhere(self):
        for path in FOLDER.glob("*.py"):
            for node in ast.walk(ast.parse(path.read_text())):
                if isinstance(node, ast.ClassDef) and path.stem != "errors":
                    self.assertEqual(node.bases, [], (path, node.name))


class ArgumentsTest(unittest.TestCase):
    def check(self, call, told, thing, note):
        """Check that a call returns or raises an error of the package, and changes nothing that it was passed."""
        arguments = with_thing(told, thing)
        before = [repr(argument) for argument in arguments]
        try:
            call(*arguments)
        except RunsError as error:
            self.assertIs(type(error).__bases__[0], RunsError)
        except Exception as error:
            self.fail("%r of %r at %s" % (error, thing, note))
        self.assertEqual([repr(argument) for argument in arguments], before)

    def test_functions(self):
        for name, function, told in CALLS:
            call = getattr(importlib.import_module("runsback." + name), function)
            for thing in all_things():
                self.check(call, told, thing, (name, function))

    def test_methods(self):
        for make, method, told in METHODS:
            for thing in all_things():
                self.check(getattr(make(), method), told, thing, method)

    def test_judges_return_flags(self):
        for name, function, told in CALLS:
            call = getattr(importlib.import_module("runsback." + name), function)
            if function.startswith("is_") and (told[-1] is THING or isinstance(told[-1], (list, tuple, dict))):
                for thing in all_things():
                    try:
                        self.assertIs(type(call(*with_thing(told, thing))), bool, (function, thing))
                    except RunsError:
                        continue

    def test_equal_calls_give_equal_answers(self):
        for name, function, told in CALLS:
            call = getattr(importlib.import_module("runsback." + name), function)
            for thing in ["a", "aB", "", 0, 1, (0, 1), [], {}]:
                answers = []
                for _ in range(2):
                    try:
                        answers.append(call(*with_thing(copy.deepcopy(told) if THING not in told else told, thing)))
                    except RunsError as error:
                        answers.append((type(error), vars(error)))
                if not isinstance(answers[0], (Keeper, Stand)):
                    self.assertEqual(answers[0], answers[1], (function, thing))

    def test_answers_are_new(self):
        for name, function, told in CALLS:
            call = getattr(importlib.import_module("runsback." + name), function)
            for thing in ["a", "aB", "b", 0, (0,), (0, 1)]:
                answers = []
                for _ in range(2):
                    try:
                        answers.append(call(*with_thing(told, thing)))
                    except RunsError:
                        answers.append(None)
                for one, other in zip(self.changeable(answers[0]), self.changeable(answers[1])):
                    self.assertIsNot(one, other, (function, thing))

    def changeable(self, thing):
        """The lists and dicts within a thing."""
        found = [thing] if isinstance(thing, (list, dict)) else []
        if isinstance(thing, (list, tuple)):
            found += [each for item in thing for each in self.changeable(item)]
        if isinstance(thing, dict):
            found += [each for key in thing for each in self.changeable(thing[key])]
        return found

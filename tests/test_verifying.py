import copy
import random
import unittest

from flowreprise.compiling import compile_program, signatures
from flowreprise.errors import VerifyError
from flowreprise.trees import read_program
from flowreprise.verifying import first_state, next_states, paper_right, verify
from tests.helper import KINDS, Maker, Stepping, answers_of, check_untouched, random_value

INTS, TEXTS, DEEP = ("list", "int"), ("list", "text"), ("list", ("list", "int"))
SIGNS = {"g": (["int", "text"], "bool"), "h": ([], INTS)}
END = [("push", ("nothing",)), ("return",)]


def code_of(rows, slots=3, params=0, name="f"):
    return ("code", name, params, slots, rows)


def fault(rows, slots=3, params=0, signature=None, others=None):
    """The place of the fault of a function "f", or None."""
    sorts = {"f": ([], "nothing") if signature is None else signature, **SIGNS, **(others or {})}
    try:
        verify({"f": code_of(rows, slots, params)}, sorts)
    except VerifyError as error:
        assert error.function == "f"
        return error.place
    return None


class Case(unittest.TestCase):
    def after(self, row, stack, slots=(None, "int", "text"), guards=(), kind="nothing"):
        """What follows an instruction at the place 1 of a function with that type."""
        code = code_of([("drop",), row, ("drop",), ("drop",)])
        state = (tuple(stack), tuple(slots), tuple(guards))
        return check_untouched(self, next_states, code, 1, state, {"f": ([], kind), **SIGNS})

    def check(self, row, stack, wanted, fails=False):
        """Checks the stack behind a sound instruction."""
        slots = (None, "int", "text")
        self.assertEqual(self.after(row, stack), [(2, (tuple(wanted), slots, ()))])
        more = ("nothing", "bool")
        guards = ((3, 0, 1), (3, 1, 1))
        on = (2, ((*more, *wanted), slots, guards))
        failed = (3, (("nothing",), (None, "int", "text"), ((3, 0, 1),)))
        self.assertEqual(self.after(row, [*more, *stack], guards=guards), [on, failed] if fails else [on])

    def check_not(self, row, *stacks):
        for stack in stacks:
            self.assertIsNone(self.after(row, stack), (row, stack))


class TestInstructions(Case):
    def test_push(self):
        for value, kind in ((("int", 10 ** 12), "int"), (("bool", False), "bool"), (("text", "a" * 60), "text"),
                            (("nothing",), "nothing")):
            self.check(("push", value), [], [kind])
        for value in (("int", 10 ** 12 + 1), ("int", -10 ** 12 - 1), ("text", "a" * 61), ("text", "\n"), ("list", ()),
                      ("list", (("int", 1),))):
            self.check_not(("push", value), [], ["int"])

    def test_slots(self):
        self.check(("get", 1), [], ["int"])
        self.check(("get", 2), ["bool"], ["bool", "text"])
        self.check_not(("get", 0), [], ["int"])
        self.assertEqual(self.after(("put", 0), ["int", INTS]), [(2, (("int",), (INTS, "int", "text"), ()))])
        self.assertEqual(self.after(("put", 2), ["bool"]), [(2, ((), (None, "int", "bool"), ()))])
        self.check(("drop",), [DEEP], [])
        self.check_not(("put", 1), [])
        self.check_not(("drop",), [])

    def test_calculations(self):
        for sign in "+-*/":
            self.check(("op", sign), ["int", "int"], ["int"], True)
            self.check_not(("op", sign), [], ["int"], ["int", "bool"], ["text", "int"], ["text", "text"], [INTS, INTS])

    def test_put_together(self):
        for kind in ("text", INTS, DEEP):
            self.check(("op", "&"), [kind, kind], [kind], True)
        self.check_not(("op", "&"), ["int", "int"], ["bool", "bool"], ["nothing", "nothing"], ["text", INTS],
                       [INTS, TEXTS], [INTS, DEEP], [INTS], [])

    def test_compared(self):
        for sign in ("=", "!="):
            for kind in KINDS:
                self.check(("op", sign), [kind, kind], ["bool"])
            self.check_not(("op", sign), ["int", "bool"], [INTS, TEXTS], ["int"], [])
        for sign in ("<", "<="):
            for kind in KINDS:
                if kind in ("int", "text"):
                    self.check(("op", sign), [kind, kind], ["bool"])
                else:
                    self.check_not(("op", sign), [kind, kind])
            self.check_not(("op", sign), ["int", "text"], ["text"], [])

    def test_operations_of_one_value(self):
        for word, kinds, made in (("not", ["bool"], "bool"), ("neg", ["int"], "int"),
                                  ("size", ["text", INTS, TEXTS, DEEP], "int"), ("text of", ["int", "bool"], "text")):
            for kind in KINDS:
                if kind in kinds:
                    self.check((word,), [kind], [made])
                else:
                    self.check_not((word,), [kind])
            self.check_not((word,), [])

    def test_items(self):
        self.check(("item",), [INTS, "int"], ["int"], True)
        self.check(("item",), [DEEP, "int"], [INTS], True)
        self.check_not(("item",), ["int", INTS], [INTS, "bool"], ["text", "int"], ["int"], [])

    def test_lists(self):
        self.check(("list", "int", 2), ["int", "int"], [INTS], True)
        self.check(("list", INTS, 1), [INTS], [DEEP], True)
        self.check(("list", "bool", 0), [], [("list", "bool")], True)
        self.check(("list", "int", 25), ["int"] * 25, [INTS], True)
        self.check_not(("list", "int", 2), ["int"], ["int", "text"], ["text", "int"], [])

    def test_jumps(self):
        slots = (None, "int", "text")
        self.assertEqual(self.after(("jump", 3), ["int"]), [(3, (("int",), slots, ()))])
        self.assertEqual(self.after(("jump", 0), []), [(0, ((), slots, ()))])
        state = (("int",), slots, ())
        self.assertEqual(self.after(("unless", 0), ["int", "bool"]), [(2, state), (0, state)])
        self.assertEqual(self.after(("unless", 3), ["int", "bool"]), [(2, state), (3, state)])
        self.assertEqual(self.after(("unless", 2), ["int", "bool"]), [(2, state), (2, state)])
        self.check_not(("unless", 3), ["int"], [])

    def test_calls(self):
        self.check(("call", "g", 2), ["int", "text"], ["bool"], True)
        self.check(("call", "h", 0), [], [INTS], True)
        self.check_not(("call", "g", 2), ["text", "int"], ["int"], ["int", "int"])
        self.check_not(("call", "g", 1), ["int", "text"], ["int"])
        self.check_not(("call", "h", 1), ["int"])
        self.check_not(("call", "k", 0), [])

    def test_return(self):
        for kind in KINDS:
            self.assertEqual(self.after(("return",), [kind], kind=kind), [])
            self.assertEqual(self.after(("return",), [kind], kind=kind, guards=[(3, 0, 0)]), [])
            self.assertIsNone(self.after(("return",), [kind, kind], kind=kind))
            self.assertIsNone(self.after(("return",), [], kind=kind))
        self.assertIsNone(self.after(("return",), ["int"], kind="bool"))
        self.assertIsNone(self.after(("return",), [INTS], kind=TEXTS))

    def test_requests(self):
        for kind in KINDS:
            self.check(("ask", "act", "pay", INTS), [kind], [INTS], True)
        self.check_not(("ask", "act", "pay", "int"), [])
        self.check(("ask", "timer"), ["int"], ["nothing"], True)
        self.check(("ask", "random"), ["int"], ["int"], True)
        for word in ("timer", "random"):
            self.check_not(("ask", word), ["bool"], ["nothing"], [])
        self.check(("ask", "signal", "go", TEXTS), [], [TEXTS], True)
        self.check(("ask", "now"), [], ["int"], True)
        self.check(("ask", "flow", "g", 2, "bool"), ["int", "text"], ["bool"], True)
        self.check(("ask", "flow", "h", 0, INTS), [], [INTS], True)
        self.check_not(("ask", "flow", "g", 2, "int"), ["int", "text"])
        self.check_not(("ask", "flow", "g", 2, "bool"), ["text", "text"], ["int"])
        self.check_not(("ask", "flow", "g", 1, "bool"), ["int"])
        self.check_not(("ask", "flow", "k", 0, "int"), [])
        self.check_not(("ask", "flow", "h", 0, "int"), [])

    def test_guards(self):
        slots = (None, "int", "text")
        self.assertEqual(
            self.after(("guard", 3, 2), ["int", "int"]), [(2, (("int", "int"), slots, ((3, 2, 2),)))])
        self.assertEqual(
            self.after(("guard", 0, 0), [], guards=[(3, 2, 0)]), [(2, ((), slots, ((3, 2, 0), (0, 0, 0))))])
        self.assertEqual(self.after(("unguard",), ["int"], guards=[(3, 2, 1)]), [(2, (("int",), slots, ()))])
        self.assertEqual(
            self.after(("unguard",), [], guards=[(3, 2, 1), (2, 0, 0)]), [(2, ((), slots, ((3, 2, 1),)))])
        self.check_not(("unguard",), [], ["int"])
        self.assertIsNone(self.after(("unguard",), ["int", "int"], guards=[(3, 2, 1)]))
        self.assertIsNone(self.after(("unguard",), [], guards=[(3, 2, 1)]))
        self.assertIsNone(self.after(("unguard",), ["int"], guards=[(3, 2, 1), (3, 2, 0)]))

    def test_failures(self):
        self.assertEqual(self.after(("fail",), ["int"]), [])
        self.assertEqual(
            self.after(("fail",), ["bool", "int"], guards=[(0, 0, 0), (3, 2, 1)]),
            [(3, (("bool",), (None, "int", "int"), ((0, 0, 0),)))])
        self.check_not(("fail",), ["bool"], [])
        # The stack is cut as it was before the instruction, and a lower one stays.
        for height, stack in ((0, ()), (1, ("int",)), (2, ("int", "int")), (5, ("int", "int"))):
            self.assertEqual(
                self.after(("op", "+"), ["int", "int"], guards=[(0, 0, height)]),
                [(2, (("int",), (None, "int", "text"), ((0, 0, height),))), (0, (stack, ("int", "int", "text"), ()))])

    def test_first_state(self):
        self.assertEqual(
            check_untouched(self, first_state, code_of([], 4, 2), (["int", TEXTS], "bool")),
            ((), ("int", TEXTS, None, None), ()))
        self.assertEqual(first_state(code_of([], 0, 0), ([], "bool")), ((), (), ()))


class TestFormed(Case):
    def test_functions(self):
        self.assertEqual(fault([]), 0)
        self.assertEqual(fault(END, 1, 2, (["int", "int"], "nothing")), 0)
        self.assertEqual(fault(END, 2, 2, (["int", "int"], "nothing")), None)
        self.assertEqual(fault(END, 2, 2, (["int"], "nothing")), 0)
        self.assertEqual(fault(END, 2, 1, (["int", "int"], "nothing")), 0)
        self.assertEqual(fault([("get", 7), *END], 0, 1, (["int"], "nothing")), 0)

    def test_places(self):
        for row in (("jump", 3), ("jump", -1), ("unless", 3), ("unless", -1), ("guard", 3, 0), ("guard", -1, 0),
                    ("get", 3), ("get", -1), ("put", 3), ("put", -1), ("guard", 0, 3), ("guard", 0, -1),
                    ("list", "int", -1), ("call", "h", -1), ("ask", "flow", "h", -1, INTS)):
            with self.subTest(row=row):
                self.assertEqual(fault([("jump", 1), ("push", ("nothing",)), row]), 2)
                self.assertEqual(fault([row, *END]), 0)

    def test_places_that_may_follow(self):
        for row in (("push", ("int", 1)), ("unless", 0), ("drop",), ("call", "h", 0), ("guard", 0, 0), ("unguard",)):
            self.assertEqual(fault([*END, row]), 2)
        for row in (("jump", 0), ("return",), ("fail",)):
            self.assertIsNone(fault([*END, row]))

    def test_formed_before_sound(self):
        self.assertEqual(fault([("drop",), ("get", 9), *END]), 1)
        self.assertEqual(fault([("drop",), ("get", 2), *END]), 0)
        self.assertEqual(fault([("get", 9), ("get", 8), *END]), 0)
        # Of several functions, one is looked at after the other.
        good, unsound, bad = code_of(END, name="a"), code_of([("drop",), *END], name="b"), code_of([], name="c")
        sorts = {name: ([], "nothing") for name in "abc"}
        for codes, function in (({"c": bad, "b": unsound, "a": good}, "b"), ({"c": bad, "a": good}, "c")):
            with self.assertRaises(VerifyError) as told:
                verify(codes, sorts)
            self.assertEqual((told.exception.function, told.exception.place), (function, 0))


class TestJoined(Case):
    def test_slots(self):
        one, text = ("push", ("int", 1)), ("push", ("text", ""))
        branch = [("get", 0), ("unless", 6)]
        rows = [*branch, one, ("put", 1), ("jump", 8), ("jump", 8), text, ("put", 1), ("get", 0), ("drop",), *END]
        paper = verify({"f": code_of(rows, 2, 1)}, {"f": (["bool"], "nothing")})
        self.assertEqual(paper["f"][8], ((), ("bool", None), ()))
        self.assertIsNone(paper["f"][5])
        rows[8] = ("get", 1)
        self.assertEqual(fault(rows, 2, 1, (["bool"], "nothing")), 8)
        rows[6] = one
        self.assertIsNone(fault(rows, 2, 1, (["bool"], "nothing")))
        rows[7] = ("drop",)
        self.assertEqual(fault(rows, 2, 1, (["bool"], "nothing")), 8)

    def test_loops_look_again(self):
        rows = [("push", ("int", 1)), ("put", 0), ("get", 0), ("drop",), ("push", ("text", "")), ("put", 0), ("jump", 2)]
        self.assertEqual(fault(rows), 2)
        rows[4] = ("push", ("int", 2))
        paper = verify({"f": code_of(rows)}, {"f": ([], "int")})
        self.assertEqual(paper["f"][2], ((), ("int", None, None), ()))
        rows[3:4] = [("put", 1)]
        paper = verify({"f": code_of(rows)}, {"f": ([], "int")})
        self.assertEqual(paper["f"][2], ((), ("int", None, None), ()))
        self.assertEqual(paper["f"][4], ((), ("int", "int", None), ()))

    def test_stacks_that_differ(self):
        truth = ("push", ("bool", True))
        # The next place.
        self.assertEqual(fault([truth, ("unless", 3), truth, *END]), 3)
        self.assertEqual(fault([truth, truth, ("unless", 4), ("drop",), ("drop",), *END]), 4)
        # The place of the instruction.
        self.assertEqual(fault([truth, ("jump", 0)]), 0)
        self.assertEqual(fault([truth, truth, ("unless", 0), ("drop",), *END]), 0)
        self.assertIsNone(fault([truth, truth, ("unless", 1), ("drop",), *END]))

    def test_next_place_before_place_of_the_instruction(self):
        truth = ("push", ("bool", True))
        rows = [truth, ("unless", 8), truth, truth, ("jump", 7), truth, truth, ("unless", 2), *END]
        self.assertEqual(fault(rows), 8)
        rows[1] = ("unless", 2)
        self.assertEqual(fault(rows), 2)

    def test_place_of_the_guard(self):
        one = ("push", ("int", 1))
        rows = [("guard", 6, 0), one, one, ("op", "+"), ("drop",), ("unguard",), ("get", 0), ("drop",), *END]
        self.assertEqual(fault(rows), 6)
        rows = [("guard", 8, 0), one, one, ("op", "+"), ("drop",), ("unguard",), one, ("put", 0), ("get", 0), ("drop",),
                *END]
        self.assertIsNone(fault(rows))
        rows = [one, ("guard", 8, 0), one, one, ("op", "+"), ("drop",), ("unguard",), ("drop",), *END]
        self.assertEqual(fault(rows), 8)
        rows = [one, ("guard", 7, 0), one, one, ("op", "+"), ("drop",), ("unguard",), ("drop",), *END]
        self.assertIsNone(fault(rows))

    def test_next_place_before_place_of_the_guard(self):
        one, truth = ("push", ("int", 1)), ("push", ("bool", True))
        rows = [truth, ("unless", 8), truth, ("unless", 10), one, ("guard", 10, 0), ("jump", 7), ("ask", "now"),
                ("jump", 10), ("drop",), *END]
        self.assertEqual(fault(rows), 8)
        rows[1] = ("unless", 10)
        self.assertEqual(fault(rows), 10)

    def test_guards_that_differ(self):
        truth = ("push", ("bool", True))
        rows = [truth, ("unless", 3), ("guard", 3, 0), *END]
        self.assertEqual(fault(rows), 3)
        rows = [truth, ("unless", 4), ("guard", 6, 0), ("jump", 5), ("guard", 6, 0), ("unguard",), *END]
        self.assertIsNone(fault(rows))
        for other in (("guard", 6, 1), ("guard", 7, 0)):
            self.assertEqual(fault(rows[:4] + [other] + rows[5:]), 5)
        self.assertEqual(fault([("guard", 1, 0), ("jump", 0)]), 0)


class TestVerify(Case):
    def test_paper(self):
        program = read_program("fn f(a: int): int { try { let b = a / 2; return b; } catch c { fail c; } }")
        codes, sorts = compile_program(program), signatures(program)
        start, guard = ((), ("int", None, None), ()), ((9, 1, 0),)
        self.assertEqual([row[0] for row in codes["f"][4]], [
            "guard", "get", "push", "op", "put", "get", "return", "unguard", "jump", "get", "fail", "push", "return"])
        self.assertEqual(check_untouched(self, verify, codes, sorts), {"f": [
            start, ((), ("int", None, None), guard), (("int",), ("int", None, None), guard),
            (("int", "int"), ("int", None, None), guard), (("int",), ("int", None, None), guard),
            ((), ("int", None, "int"), guard), (("int",), ("int", None, "int"), guard), None, None,
            ((), ("int", "int", None), ()), (("int",), ("int", "int", None), ()), None, None]})

    def test_compiled_programs(self):
        for seed in range(200):
            program = Maker(random.Random(seed)).program()
            codes, sorts = compile_program(program), signatures(program)
            paper = check_untouched(self, verify, codes, sorts)
            self.assertIs(check_untouched(self, paper_right, codes, sorts, paper), True)
            for name, code in codes.items():
                self.assertEqual(len(paper[name]), len(code[4]))
                self.assertEqual(paper[name][0], first_state(code, sorts[name]))


class TestPapers(Case):
    def setUp(self):
        program = read_program(
            "fn f(a: int): int { let d = text(a); try { let b = a / 2; if b < 1 { set a = b; } } catch c { do c; } "
            "return a; } fn g(a: bool): nothing { while a { let b = 1; set a = b < 2; } return nothing; }")
        self.codes, self.sorts = compile_program(program), signatures(program)
        self.paper = verify(self.codes, self.sorts)

    def right(self, **rows):
        return paper_right(self.codes, self.sorts, {**self.paper, **rows})

    def test_right(self):
        self.assertIs(self.right(), True)

    def test_names(self):
        self.assertIs(self.right(h=[]), False)
        self.assertIs(self.right(h=self.paper["g"]), False)
        self.assertIs(paper_right(self.codes, self.sorts, {"f": self.paper["f"]}), False)
        self.assertIs(paper_right(self.codes, self.sorts, {}), False)
        self.assertIs(paper_right({}, self.sorts, {}), True)

    def test_lengths(self):
        for name in "fg":
            rows = self.paper[name]
            for other in (rows[:-1], rows + [None], rows + [rows[-1]], rows[1:], []):
                self.assertIs(self.right(**{name: other}), False)

    def test_each_state_otherwise(self):
        for name in "fg":
            for at, state in enumerate(self.paper[name]):
                if state is None:
                    continue
                stack, slots, guards = state
                for other in (None, (stack + ("int",), slots, guards), (stack[:-1] + ("bool", "bool"), slots, guards),
                              (stack, slots, guards + ((0, 0, 0),)), (stack, slots, ((0, 1, 1),)),
                              (stack, slots + ("int",), guards), (stack, slots[:-1], guards),
                              (stack, ("nothing",) + slots[1:], guards)):
                    rows = list(self.paper[name])
                    rows[at] = other
                    self.assertIs(self.right(**{name: rows}), False, (name, at, other))

    def test_slots_that_are_told_of_less(self):
        # The text in the slot 1 is got nowhere, but the integer in the slot 0 is got at the end.
        rows = [None if state is None else (state[0], (state[1][0], None, *state[1][2:]), state[2])
                for state in self.paper["f"]]
        self.assertIs(self.right(f=rows), True)
        rows = list(self.paper["f"])
        last = max(at for at, row in enumerate(self.codes["f"][4]) if row == ("get", 0))
        rows[last] = (rows[last][0], (None, *rows[last][1][1:]), rows[last][2])
        self.assertIs(self.right(f=rows), False)
        rows = list(self.paper["f"])
        rows[last] = (rows[last][0], (rows[last][1][0], None, *rows[last][1][2:]), rows[last][2])
        self.assertIs(self.right(f=rows), False)
        rows[last + 1] = (rows[last + 1][0], rows[last][1], rows[last + 1][2])
        self.assertIs(self.right(f=rows), True)

    def test_slots_that_are_told_of_more(self):
        rows = list(self.paper["g"])
        rows[0] = (rows[0][0], ("bool", "int"), rows[0][2])
        self.assertIs(self.right(g=rows), False)

    def test_states_of_places_that_are_never_reached(self):
        rows = list(self.paper["g"])
        self.assertEqual(rows[-2:], [None, None])
        rows[-2] = ((), (None, None), ())
        self.assertIs(self.right(g=rows), False)
        rows[-1] = (("nothing",), (None, None), ())
        self.assertIs(self.right(g=rows), True)
        rows[-1] = (("nothing",), (None, "int"), ())
        self.assertIs(self.right(g=rows), False)
        rows[-1] = (("nothing",), (None,), ())
        self.assertIs(self.right(g=rows), False)
        rows[-1] = (("int",), (None, None), ())
        self.assertIs(self.right(g=rows), False)
        rows[-2:] = [None, (("nothing",), (None, None), ())]
        self.assertIs(self.right(g=rows), True)
        for slots in ((None,), (None, None, None), ()):
            rows[-1] = (("nothing",), slots, ())
            self.assertIs(self.right(g=rows), False)

    def test_guards_that_are_only_told(self):
        # The places 1 and 2 are never reached; a failure at the place 1 leads to that of the guard.
        one = ("push", ("int", 1))
        codes = {"f": code_of([("jump", 3), ("ask", "now"), ("return",), one, ("return",)], 2)}
        sorts = {"f": ([], "int")}
        paper = verify(codes, sorts)["f"]
        for guard, wanted in (
                ((3, 0, 0), True), ((3, 1, 0), True), ((3, 0, 4), True), ((0, 0, 0), True), ((4, 0, 0), False),
                ((5, 0, 0), False), ((9, 0, 0), False), ((-2, 0, 0), False), ((-5, 0, 0), False), ((3, 2, 0), False),
                ((3, -1, 0), False), ((3, -2, 0), False), ((3, 0, -1), False)):
            with self.subTest(guard=guard):
                state = ((), (None, None), (guard,))
                told = [paper[0], state, (("int",), *state[1:]), paper[3], paper[4]]
                self.assertIs(paper_right(codes, sorts, {"f": told}), wanted)
        told[2] = (("int",), (None, None), ())
        self.assertIs(paper_right(codes, sorts, {"f": told}), False)

    def test_code_otherwise(self):
        for code in (code_of([], 2, 1), code_of(END, 0, 1), code_of(END, 3, 2), code_of([("get", 5), *END], 3, 1)):
            self.assertIs(paper_right({"f": code}, {"f": (["int"], "nothing")}, {"f": [None] * len(code[4])}), False)
        state, last = ((), (None,), ()), (("nothing",), (None,), ())
        codes, sorts = {"f": code_of(END, 1)}, {"f": ([], "nothing")}
        self.assertIs(paper_right(codes, sorts, {"f": [state, last]}), True)
        for row in (("jump", 9), ("get", 1), ("drop",), ("guard", 0, 1)):
            codes = {"f": code_of([*END, row], 1)}
            self.assertIs(paper_right(codes, sorts, {"f": [state, last, None]}), False)
        codes = copy.deepcopy(self.codes)
        codes["g"][4][0] = ("get", 1)
        self.assertIs(paper_right(codes, self.sorts, self.paper), False)


def changed(rng, rows):
    """The same instructions with one otherwise, left out or more."""
    rows = list(rows)
    at = rng.randrange(len(rows))
    word = rng.choice(["turn", "turn", "leave", "more"])
    row = rng.choice(rows)
    if word == "leave":
        del rows[at]
    elif word == "more":
        rows.insert(at, row)
    elif isinstance(rows[at][-1], int) and rng.random() < 0.7:
        rows[at] = rows[at][:-1] + (rows[at][-1] + rng.choice([-1, 1, 2]),)
    elif rows[at][0] in ("unless", "jump", "guard"):
        rows[at] = (rows[at][0], rng.randrange(len(rows)), *rows[at][2:])
    else:
        rows[at] = row
    return rows


class TestChanged(Case):
    def test_changed_code(self):
        kept = 0
        for seed in range(1500):
            rng = random.Random(seed)
            program = Maker(rng).program()
            codes, sorts = compile_program(program), signatures(program)
            name = rng.choice(sorted(codes))
            code = codes[name]
            codes[name] = (*code[:4], changed(rng, code[4]))
            if not codes[name][4]:
                continue
            try:
                paper = check_untouched(self, verify, codes, sorts)
            except VerifyError as error:
                self.assertEqual(error.function, name)
                self.assertIn(error.place, range(len(codes[name][4])))
                continue
            kept += 1
            self.assertTrue(paper_right(codes, sorts, paper))
            # What is verified never meets an instruction that it cannot do.
            values = [random_value(rng, kind, True) for kind in sorts[name][0]]
            outcome = Stepping(codes, answers_of(seed, program, 20), 3000).run(name, values)
            if outcome[0] == "done":
                value = outcome[1]
                self.assertTrue(value[0] == "list" if isinstance(sorts[name][1], tuple) else value[0] == sorts[name][1])
        self.assertGreater(kept, 100)


if __name__ == "__main__":
    unittest.main()

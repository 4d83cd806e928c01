import random
import unittest

from flowreprise.compiling import compile_program, signatures
from tests.helper import Maker, Meaning, Stepping, answers_of, check_untouched, random_value

ONE, TWO, A, T = ("int", 1), ("int", 2), ("var", "a"), ("var", "t")
END = [("push", ("nothing",)), ("return",)]
GET_A, GET_T = ("get", 0), ("get", 1)
PARAMS = [("a", "int"), ("t", "bool")]


def compiled(body, params=PARAMS, others=()):
    program = [("fn", "f", list(params), "int", body), *others]
    return compile_program(program)["f"]


class TestExample(unittest.TestCase):
    def test_example(self):
        body = [("while", ("op", "<", ("var", "n"), ("int", 3)), [("set", "n", ("op", "+", ("var", "n"), ("int", 1)))]),
                ("return", ("var", "n"))]
        code = compile_program([("fn", "up", [("n", "int")], "int", body)])["up"]
        self.assertEqual(code[:4], ("code", "up", 1, 1))
        self.assertEqual(
            [instruction[0] for instruction in code[4]],
            ["get", "push", "op", "unless", "get", "push", "op", "put", "jump", "get", "return", "push", "return"])


class TestExpressions(unittest.TestCase):
    def check(self, tree, *rows):
        self.assertEqual(compiled([("do", tree)])[4], [*rows, ("drop",), *END])

    def test_literals_and_names(self):
        for tree in (("int", 0), ("int", 10 ** 12), ("bool", True), ("bool", False), ("text", 'a"'), ("nothing",)):
            self.check(tree, ("push", tree))
        self.check(A, GET_A)
        self.check(T, GET_T)

    def test_operations(self):
        for sign in ("+", "-", "*", "/", "&", "=", "!=", "<", "<="):
            self.check(("op", sign, A, ONE), GET_A, ("push", ONE), ("op", sign))
        self.check(("not", T), GET_T, ("not",))
        self.check(("neg", A), GET_A, ("neg",))
        self.check(("size", ("text", "")), ("push", ("text", "")), ("size",))
        self.check(("text of", A), GET_A, ("text of",))

    def test_lists(self):
        self.check(("list", "int", []), ("list", "int", 0))
        self.check(("list", "int", [A, ONE]), GET_A, ("push", ONE), ("list", "int", 2))
        inner = ("list", "int", [A])
        self.check(("list", ("list", "int"), [inner]), GET_A, ("list", "int", 1), ("list", ("list", "int"), 1))
        self.check(("item", inner, ONE), GET_A, ("list", "int", 1), ("push", ONE), ("item",))

    def test_and(self):
        self.check(("op", "and", T, ("not", T)), GET_T, ("unless", 5), GET_T, ("not",), ("jump", 6),
                   ("push", ("bool", False)))

    def test_or(self):
        self.check(("op", "or", T, ("not", T)), GET_T, ("unless", 4), ("push", ("bool", True)), ("jump", 6),
                   GET_T, ("not",))

    def test_and_inside_or(self):
        self.check(("op", "or", ("op", "and", T, T), T), GET_T, ("unless", 4), GET_T, ("jump", 5),
                   ("push", ("bool", False)), ("unless", 8), ("push", ("bool", True)), ("jump", 9), GET_T)

    def test_calls_and_requests(self):
        body = [("do", tree) for tree in (
            ("call", "g", [A, T]), ("await", "flow", "g", [A, T]), ("await", "act", "pay", T, ("list", "text")),
            ("await", "signal", "go", "bool"), ("await", "timer", A), ("now",), ("random", A), ("call", "h", []),
            ("await", "flow", "h", []))]
        others = [("fn", "g", list(PARAMS), "text", [("return", ("text", ""))]),
                  ("fn", "h", [], "nothing", [("return", ("nothing",))])]
        self.assertEqual(compiled(body, others=others)[4], [
            GET_A, GET_T, ("call", "g", 2), ("drop",), GET_A, GET_T, ("ask", "flow", "g", 2, "text"), ("drop",),
            GET_T, ("ask", "act", "pay", ("list", "text")), ("drop",), ("ask", "signal", "go", "bool"), ("drop",),
            GET_A, ("ask", "timer"), ("drop",), ("ask", "now"), ("drop",), GET_A, ("ask", "random"), ("drop",),
            ("call", "h", 0), ("drop",), ("ask", "flow", "h", 0, "nothing"), ("drop",), *END])

    def test_parts_from_left_to_right(self):
        tree = ("op", "-", ("op", "*", A, ONE), ("neg", ("op", "/", TWO, A)))
        self.check(tree, GET_A, ("push", ONE), ("op", "*"), ("push", TWO), GET_A, ("op", "/"), ("neg",), ("op", "-"))


class TestStatements(unittest.TestCase):
    def check(self, body, *rows, slots=2):
        code = compiled(body)
        self.assertEqual(code, ("code", "f", 2, slots, [*rows, *END]))

    def test_plain_statements(self):
        self.check([])
        self.check([("let", "x", ONE), ("set", "x", A), ("set", "a", ("var", "x"))],
                   ("push", ONE), ("put", 2), GET_A, ("put", 2), ("get", 2), ("put", 0), slots=3)
        self.check([("return", A), ("do", A), ("fail", A)], GET_A, ("return",), GET_A, ("drop",), GET_A, ("fail",))

    def test_if(self):
        self.check([("if", T, [("do", ONE)], [("do", TWO)])], GET_T, ("unless", 5), ("push", ONE), ("drop",),
                   ("jump", 7), ("push", TWO), ("drop",))
        self.check([("if", T, [("do", ONE)], [])], GET_T, ("unless", 5), ("push", ONE), ("drop",), ("jump", 5))
        self.check([("if", T, [], [])], GET_T, ("unless", 3), ("jump", 3))
        self.check([("if", T, [], [("do", ONE)])], GET_T, ("unless", 3), ("jump", 5), ("push", ONE), ("drop",))

    def test_while(self):
        self.check([("do", A), ("while", T, [("do", ONE)]), ("do", A)], GET_A, ("drop",), GET_T, ("unless", 7),
                   ("push", ONE), ("drop",), ("jump", 2), GET_A, ("drop",))
        self.check([("while", T, [])], GET_T, ("unless", 3), ("jump", 0))

    def test_try(self):
        self.check([("try", [("do", ONE)], "c", [("do", ("var", "c"))])], ("guard", 5, 2), ("push", ONE), ("drop",),
                   ("unguard",), ("jump", 7), ("get", 2), ("drop",), slots=3)
        self.check([("try", [], "c", [])], ("guard", 3, 2), ("unguard",), ("jump", 3), slots=3)

    def test_nested(self):
        code = compiled([("while", T, [("if", T, [("return", A)], [("try", [("fail", A)], "c", [("while", T, [])])])])])
        self.assertEqual(code[4], [
            GET_T, ("unless", 16), GET_T, ("unless", 7), GET_A, ("return",), ("jump", 15), ("guard", 12, 2), GET_A,
            ("fail",), ("unguard",), ("jump", 15), GET_T, ("unless", 15), ("jump", 12), ("jump", 0), *END])

    def test_test_with_and(self):
        self.check([("if", ("op", "and", T, T), [("do", A)], [])], GET_T, ("unless", 4), GET_T, ("jump", 5),
                   ("push", ("bool", False)), ("unless", 9), GET_A, ("drop",), ("jump", 9))


class TestSlots(unittest.TestCase):
    def puts(self, body):
        code = compiled(body)
        return code[3], [row[-1] for row in code[4] if row[0] in ("put", "guard")]

    def test_names_of_try_come_before_its_bodies(self):
        body = [("try", [("let", "x", ONE)], "c", [("let", "y", ONE)]), ("let", "z", ONE)]
        self.assertEqual(self.puts(body), (6, [2, 3, 4, 5]))

    def test_nested_bodies(self):
        body = [("if", T, [("let", "x", ONE)], [("let", "y", ONE), ("set", "y", TWO)]),
                ("while", T, [("let", "z", ONE), ("try", [("set", "a", ONE)], "c", [])]), ("let", "w", ONE)]
        self.assertEqual(self.puts(body), (7, [2, 3, 3, 4, 5, 0, 6]))

    def test_one_name_in_two_bodies_has_one_slot(self):
        body = [("if", T, [("let", "x", ONE)], [("let", "y", TWO), ("let", "x", TWO)]), ("let", "z", ONE)]
        self.assertEqual(self.puts(body), (5, [2, 3, 2, 4]))

    def test_parameters_in_order(self):
        program = [("fn", "f", [("b", "int"), ("a", "int")], "int", [("return", ("op", "-", A, ("var", "b")))])]
        self.assertEqual(compile_program(program)["f"], ("code", "f", 2, 2, [
            ("get", 1), ("get", 0), ("op", "-"), ("return",), *END]))


class TestPrograms(unittest.TestCase):
    def test_signatures(self):
        program = [("fn", "g", [("x", "int"), ("y", ("list", "text"))], "bool", [("return", ("bool", True))]),
                   ("fn", "f", [], "nothing", [("return", ("nothing",))])]
        self.assertEqual(check_untouched(self, signatures, program), {
            "g": (["int", ("list", "text")], "bool"), "f": ([], "nothing")})
        self.assertEqual(sorted(compile_program(program)), ["f", "g"])

    def test_nothing_is_modified_or_shared(self):
        for seed in range(60):
            program = Maker(random.Random(seed)).program()
            check_untouched(self, compile_program, program)
            check_untouched(self, signatures, program)

    def test_code_does_what_programs_mean(self):
        for seed in range(400):
            rng = random.Random(seed)
            program = Maker(rng, loops=seed % 2 == 0, rings=seed % 3 > 0).program()
            codes = compile_program(program)
            for _, name, params, _, _ in program:
                values = [random_value(rng, kind, rng.random() < 0.7) for _, kind in params]
                many = rng.choice([0, 1, 5, 20])
                meaning = Meaning(program, answers_of(seed, program, many), 1000)
                outcome = meaning.run(name, values)
                if outcome != ("tired",):
                    stepping = Stepping(codes, answers_of(seed, program, many), 10 ** 6)
                    self.assertEqual(stepping.run(name, values), outcome)
                    self.assertEqual(stepping.requests, meaning.requests)


if __name__ == "__main__":
    unittest.main()

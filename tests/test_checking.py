import copy
import random
import unittest

from flowreprise.checking import check_program, type_of_expression
from flowreprise.errors import CheckError, FlowError
from flowreprise.trees import read_expression, read_program
from tests.helper import (
    KINDS, Failure, Maker, Meaning, answers_of, changed, check_untouched, part_at, random_value, spots, tree_spots)

INTS, TEXTS, DEEP = ("list", "int"), ("list", "text"), ("list", ("list", "int"))
NAMES = {"i": "int", "b": "bool", "t": "text", "u": "nothing", "k": INTS, "r": TEXTS, "d": DEEP}
OTHERS = "fn g(x: int, y: text): bool { return true; } fn h(): [int] { return [int:]; } "
TWO_INTS, TWO_TEXTS = [("int", "int")], [("text", "text")]
SAME = [(kind, kind) for kind in NAMES.values()]
LISTS = [(kind, kind) for kind in (INTS, TEXTS, DEEP)]


def fault_of(function, *arguments):
    """The place of the fault, or None."""
    try:
        function(*arguments)
    except CheckError as error:
        return error.place
    return None


def fault(text):
    return fault_of(check_program, read_program(text))


def fault_in(body, params="i: int, t: text, k: [int]"):
    return fault(f"fn f({params}): int {{ {body} return 0; }} {OTHERS}")


def name_of(kind):
    return min(name for name in NAMES if NAMES[name] == kind)


class TestExample(unittest.TestCase):
    def test_example(self):
        self.assertEqual(type_of_expression([], {"a": ("list", "text")}, read_expression("size(a[0]) < 2")), "bool")
        with self.assertRaises(CheckError) as caught:
            check_program(read_program("fn f(a: int): int { if a < 1 { let b = 1; } set b = 2; return a; }"))
        self.assertEqual(caught.exception.place, (0, 1))
        self.assertIsInstance(caught.exception, FlowError)


class TestTypes(unittest.TestCase):
    def setUp(self):
        self.program = read_program(OTHERS)

    def kind(self, text):
        return check_untouched(self, type_of_expression, self.program, NAMES, read_expression(text))

    def fault(self, text):
        return fault_of(type_of_expression, self.program, NAMES, read_expression(text))

    def check_two(self, form, good, made):
        """Checks a form with parts of all pairs of types, for the good pairs and what is made of each."""
        for one in NAMES.values():
            for other in NAMES.values():
                text = form.format(name_of(one), name_of(other))
                with self.subTest(text=text):
                    if (one, other) in good:
                        self.assertEqual(self.kind(text), one if made is None else made)
                    else:
                        self.assertEqual(self.fault(text), (0,))

    def check_one(self, form, good):
        """Checks a form with a part of each type, for a dict from the good types to what is made of them."""
        for kind in NAMES.values():
            text = form.format(name_of(kind))
            with self.subTest(text=text):
                if kind in good:
                    self.assertEqual(self.kind(text), good[kind])
                else:
                    self.assertEqual(self.fault(text), (0,))

    def test_literals_and_names(self):
        for text, kind in (("0", "int"), ("1000000000000", "int"), ("true", "bool"), ("false", "bool"), ('""', "text"),
                           ("nothing", "nothing"), ("now", "int"), ("i", "int"), ("d", DEEP)):
            self.assertEqual(self.kind(text), kind)
        self.assertEqual(self.fault("z"), (0,))
        self.assertEqual(self.fault("g"), (0,))
        self.assertEqual(fault_of(type_of_expression, [], {}, ("var", "i")), (0,))

    def test_signs(self):
        for sign in "+-*/":
            self.check_two("{} " + sign + " {}", TWO_INTS, "int")
        self.check_two("{} & {}", TWO_TEXTS + LISTS, None)
        for sign in ("=", "!="):
            self.check_two("{} " + sign + " {}", SAME, "bool")
        for sign in ("<", "<="):
            self.check_two("{} " + sign + " {}", TWO_INTS + TWO_TEXTS, "bool")
        for word in ("and", "or"):
            self.check_two("{} " + word + " {}", [("bool", "bool")], "bool")

    def test_words(self):
        self.check_one("not {}", {"bool": "bool"})
        self.check_one("-{}", {"int": "int"})
        self.check_one("random({})", {"int": "int"})
        self.check_one("size({})", {"text": "int", INTS: "int", TEXTS: "int", DEEP: "int"})
        self.check_one("text({})", {"int": "text", "bool": "text"})
        self.check_one("await timer({})", {"int": "nothing"})
        self.check_one("await act pay({}): [text]", {kind: TEXTS for kind in NAMES.values()})
        self.check_one("await act pay({}): nothing", {kind: "nothing" for kind in NAMES.values()})

    def test_lists(self):
        for kind in NAMES.values():
            word = {INTS: "[int]", TEXTS: "[text]", DEEP: "[[int]]"}.get(kind, kind)
            self.assertEqual(self.kind(f"[{word}:]"), ("list", kind))
            self.check_one(f"[{word}: {{}}]", {kind: ("list", kind)})
            self.check_two(f"[{word}: {{}}, {{}}]", [(kind, kind)], ("list", kind))
        self.assertEqual(self.kind("[[int]: k, [int:], [int: i, 2]]"), DEEP)
        self.assertEqual(self.kind("[[[int]]: d, [[int]: k]]"), ("list", DEEP))
        self.assertEqual(self.fault("[[[int]]: d, [[int]: k, [int: 1, t]]]"), (0, 1, 1))
        self.assertEqual(self.fault("[[int]: [text:]]"), (0,))
        self.assertEqual(self.fault("[int: i, z]"), (0, 1))

    def test_indexes(self):
        for kind, inner in ((INTS, "int"), (TEXTS, "text"), (DEEP, INTS)):
            self.check_one(name_of(kind) + "[{}]", {"int": inner})
        self.check_one("{}[0]", {INTS: "int", TEXTS: "text", DEEP: INTS})
        self.assertEqual(self.kind("d[0][i]"), "int")
        self.assertEqual(self.fault("d[0][0][0]"), (0,))
        self.assertEqual(self.fault("d[t][0]"), (0, 0))

    def test_calls(self):
        for word, place in (("", ()), ("await flow ", ())):
            self.check_two(word + "g({}, {})", [("int", "text")], "bool")
            self.assertEqual(self.kind(word + "h()"), INTS)
            for wrong in ("g()", "g(i)", "g(i, t, i)", "h(i)", "z()", "i()"):
                self.assertEqual(self.fault(word + wrong), (0, *place))
            self.assertEqual(self.fault(word + "g(z, i)"), (0, 0))
            self.assertEqual(self.fault(word + "z(i, z)"), (0, 1))

    def test_signals(self):
        for text, kind in (("int", "int"), ("nothing", "nothing"), ("[[int]]", DEEP)):
            self.assertEqual(self.kind("await signal go: " + text), kind)

    def test_order_of_parts(self):
        self.assertEqual(self.fault("(1 + t) * (t + 1)"), (0, 0))
        self.assertEqual(self.fault("(1 + 2) * (t + 1)"), (0, 1))
        self.assertEqual(self.fault("not (1 + (2 * t))"), (0, 0, 1))
        self.assertEqual(self.fault("not (1 + (2 * 3))"), (0,))
        self.assertEqual(self.fault("k[z + t]"), (0, 1, 0))
        self.assertEqual(self.fault("t[z + t]"), (0, 1, 0))
        self.assertEqual(self.fault("await act pay(not z): int"), (0, 0, 0))
        self.assertEqual(self.fault("await timer(not i)"), (0, 0))
        self.assertEqual(self.fault("random(size(i))"), (0, 0))
        self.assertEqual(self.fault("t & z & z"), (0, 0, 1))


class TestNames(unittest.TestCase):
    def test_known_behind_let(self):
        self.assertIsNone(fault_in("let a = 1; set a = a + 1; do a;"))
        self.assertEqual(fault_in("let a = a;"), (0, 0, 0))
        self.assertEqual(fault_in("set a = 1; let a = 1;"), (0, 0))
        self.assertEqual(fault_in("do a; let a = 1;"), (0, 0, 0))
        self.assertEqual(fault_in("do 1 + a; let a = 1;"), (0, 0, 0, 1))

    def test_known_in_bodies_inside(self):
        for body in ("if true { do a; } else { set a = 2; }", "while a < 3 { set a = a + 1; }",
                     "try { do a; } catch c { do a; }", "if true { while true { try { } catch c { do a + c; } } }"):
            self.assertIsNone(fault_in("let a = 1; " + body))
            self.assertIsNotNone(fault_in(body + " let a = 1;"))

    def test_unknown_behind_the_body(self):
        for body in ("if true { let a = 1; } else { }", "if true { } else { let a = 1; }", "while true { let a = 1; }",
                     "try { let a = 1; } catch c { }", "try { } catch c { let a = 1; }"):
            self.assertIsNone(fault_in(body))
            self.assertEqual(fault_in(body + " do a;"), (0, 1, 0))
            self.assertEqual(fault_in(body + " set a = 1;"), (0, 1))
        self.assertEqual(fault_in("if true { let a = 1; } else { do a; }"), (0, 0, 2, 0, 0))
        self.assertEqual(fault_in("try { let a = 1; } catch c { do a; }"), (0, 0, 2, 0, 0))
        self.assertEqual(fault_in("while a < 1 { let a = 1; }"), (0, 0, 0, 0))

    def test_names_of_catch(self):
        self.assertIsNone(fault_in("try { fail 1; } catch c { set c = c + 1; if c < 2 { do c; } }"))
        self.assertEqual(fault_in("try { do c; } catch c { }"), (0, 0, 1, 0, 0))
        self.assertEqual(fault_in("try { set c = 1; } catch c { }"), (0, 0, 1, 0))
        self.assertEqual(fault_in("try { } catch c { } do c;"), (0, 1, 0))
        self.assertEqual(fault_in("try { } catch c { } set c = 1;"), (0, 1))
        self.assertEqual(fault_in("try { } catch c { do not c; }"), (0, 0, 2, 0, 0))
        self.assertEqual(fault_in("try { } catch c { set c = true; }"), (0, 0, 2, 0))

    def test_parameters(self):
        self.assertIsNone(fault_in("if true { while true { set i = i + size(t) + size(k); } }"))
        self.assertEqual(fault_in("set i = t;"), (0, 0))
        self.assertEqual(fault("fn f(a: int): int { return 1; } fn g(): int { return a; }"), (1, 0, 0))

    def test_begun_twice(self):
        self.assertEqual(fault_in("", "a: int, b: int, a: text"), (0,))
        self.assertEqual(fault("fn g(): int { return 1; } fn f(a: int, a: int): int { return 1; }"), (1,))
        firsts = {"": "i", "let a = 1; ": "a", "if true { let a = 1; } ": "a",
                  "while true { let a = 1; } ": "a", "try { let a = 1; } catch c { } ": "a",
                  "try { } catch a { } ": "a", "try { } catch c { let a = 1; } ": "a"}
        for first, name in firsts.items():
            at = 1 if first else 0
            with self.subTest(first=first):
                self.assertEqual(fault_in(f"{first}let {name} = true;"), (0, at))
                self.assertEqual(fault_in(f"{first}try {{ }} catch {name} {{ }}"), (0, at))
                self.assertEqual(fault_in(f"{first}if true {{ }} else {{ let {name} = 2; }}"), (0, at, 2, 0))
                self.assertEqual(fault_in(f"{first}while true {{ try {{ }} catch {name} {{ }} }}"), (0, at, 1, 0))

    def test_begun_twice_in_bodies_beside_one_another(self):
        self.assertEqual(fault_in("if true { let a = 1; } else { let a = 1; }"), (0, 0, 2, 0))
        self.assertEqual(fault_in("try { let a = 1; } catch c { let a = 1; }"), (0, 0, 2, 0))
        self.assertEqual(fault_in("try { let a = 1; } catch a { }"), (0, 0))
        self.assertEqual(fault_in("try { } catch a { let a = 1; }"), (0, 0, 2, 0))
        self.assertEqual(fault_in("try { try { } catch a { } } catch a { }"), (0, 0))
        self.assertEqual(fault_in("try { } catch a { try { } catch a { } }"), (0, 0, 2, 0))
        self.assertIsNone(fault("fn f(a: int): int { let b = 1; return b; } fn g(a: int): int { let b = 1; return b; }"))

    def test_functions(self):
        rows = [f"fn {name}(): int {{ return 1; }}" for name in ("f", "g", "h")]
        self.assertIsNone(fault(" ".join(rows)))
        self.assertEqual(fault(" ".join([*rows, rows[1]])), (3,))
        self.assertEqual(fault(" ".join([rows[0], rows[0], rows[0]])), (1,))
        self.assertEqual(fault("fn f(a: int, a: int): int { return z; } fn f(): int { return 1; }"), (1,))


class TestStatements(unittest.TestCase):
    def test_types_of_expressions(self):
        program = read_program(OTHERS)
        for kind in NAMES.values():
            params = [(name, NAMES[name]) for name in sorted(NAMES)]
            tree = ("var", name_of(kind))
            for word, wanted in (("if", "bool"), ("while", "bool"), ("fail", "int"), ("return", "text"), ("do", None)):
                row = {"if": ("if", tree, [], []), "while": ("while", tree, [])}.get(word, (word, tree))
                told = fault_of(check_program, [
                    ("fn", "f", params, "text", [row, ("return", ("text", ""))]), *program])
                self.assertEqual(told, None if wanted in (None, kind) else (0, 0, 0), (word, kind))
            for other in NAMES.values():
                row = ("set", name_of(other), tree)
                told = fault_of(check_program, [("fn", "f", params, "text", [row, ("return", ("text", ""))])])
                self.assertEqual(told, None if kind == other else (0, 0))

    def test_let_has_the_type_of_its_part(self):
        for text, kind in (("1", "int"), ("true", "bool"), ('""', "text"), ("nothing", "nothing"), ("[int:]", INTS),
                           ("g(1, t)", "bool"), ("h()", INTS), ("await signal go: [text]", TEXTS)):
            for name, other in NAMES.items():
                rows = f"fn f({', '.join(one + ': ' + shown(two) for one, two in NAMES.items())}): int " \
                       f"{{ let a = {text}; set {name} = a; return 0; }} {OTHERS}"
                self.assertEqual(fault(rows), None if kind == other else (0, 1), rows)

    def test_ends(self):
        good = [
            "return 0;", "fail 1;", "do 1; return 0; do 2;", "if true { return 0; } else { fail 1; }",
            "try { return 0; } catch c { return c; }", "return 0; while true { }",
            "if true { if false { fail 1; } else { return 1; } } else { try { fail 1; } catch c { return 1; } }"]
        bad = [
            "", "do 1;", "let a = 1; set a = 2;", "if true { return 0; }", "if true { } else { return 0; }",
            "while true { return 0; }", "while true { }", "try { return 0; } catch c { }", "try { } catch c { return 0; }",
            "if true { if false { fail 1; } } else { return 0; }"]
        for body in good:
            self.assertIsNone(fault(f"fn f(): int {{ {body} }}"), body)
        for body in bad:
            self.assertEqual(fault(f"fn f(): int {{ {body} }}"), (0,), body)
            self.assertIsNone(fault(f"fn f(): int {{ {body} fail 5; }}"), body)
            self.assertEqual(fault(f"fn f(): int {{ return 1; }} fn g(): int {{ {body} }}"), (1,), body)


def shown(kind):
    return f"[{shown(kind[1])}]" if isinstance(kind, tuple) else kind


class TestOrder(unittest.TestCase):
    def test_two_faults_in_both_orders(self):
        rows = [
            ("do z;", (0,)), ("set z = 1;", ()), ("let i = 1;", ()), ("if 1 { }", (0,)), ("while t { }", (0,)),
            ("fail t;", (0,)), ("return t;", (0,)), ("try { do z; } catch i { }", (1, 0, 0)),
            ("try { } catch i { do z; }", ()), ("try { } catch c { do z; }", (2, 0, 0)),
            ("if true { do z; } else { do z; }", (1, 0, 0)), ("if true { } else { do z; }", (2, 0, 0)),
            ("if z { do z; }", (0,)), ("if 1 { do z; }", (0,)), ("while 1 + t { do z; }", (0,)),
            ("let i = z;", (0,)), ("set z = 1 + (2 + t);", (0, 1)), ("set z = t - z;", (0, 1))]
        for one, place in rows:
            self.assertEqual(fault_in(one), (0, 0, *place), one)
            self.assertEqual(fault_in("do i; " + one), (0, 1, *place), one)
            for other, _ in rows:
                self.assertEqual(fault_in(one + " do i; " + other), (0, 0, *place), (one, other))
                self.assertEqual(fault_in(f"if true {{ }} else {{ {one} }} {other}"), (0, 0, 2, 0, *place), (one, other))

    def test_bodies_before_functions_that_do_not_end(self):
        self.assertEqual(fault("fn f(): int { do z; }"), (0, 0, 0))
        self.assertEqual(fault("fn f(): int { do 1; } fn g(): int { do z; }"), (0,))
        self.assertEqual(fault("fn f(): int { return 1; do z; }"), (0, 1, 0))
        self.assertEqual(fault("fn f(): int { return 1; } fn g(a: int, a: int): int { return z; }"), (1,))
        self.assertEqual(fault("fn f(): int { return z; } fn g(a: int, a: int): int { return 1; }"), (0, 0, 0))

    def test_functions_first(self):
        self.assertEqual(fault("fn f(): int { return z; } fn f(): int { return 1; }"), (1,))


class FirstFault:
    """Looks for faults by the words of points 20 to 22, and keeps the first one only."""

    def __init__(self, program):
        self.found = []
        self.heads = {}
        for at, (_, name, params, kind, _) in enumerate(program):
            if name in self.heads:
                self.found.append((at,))
            self.heads.setdefault(name, ([inner for _, inner in params], kind))
        for at, (_, _, params, kind, body) in enumerate(program):
            self.kind = kind
            self.begun = []
            for name, _ in params:
                self.begin(name, (at,))
            self.body(body, dict(params), (at,))
            if not self.ends(body):
                self.found.append((at,))

    def begin(self, name, place):
        if name in self.begun:
            self.found.append(place)
        self.begun.append(name)

    def ends(self, body):
        for row in body:
            if row[0] in ("return", "fail"):
                return True
            if row[0] == "if" and self.ends(row[2]) and self.ends(row[3]):
                return True
            if row[0] == "try" and self.ends(row[1]) and self.ends(row[3]):
                return True
        return False

    def body(self, body, names, start):
        names = dict(names)
        for k, row in enumerate(body):
            self.statement(row, names, start + (k,))

    def statement(self, row, names, place):
        word = row[0]
        if word == "try":
            self.body(row[1], names, place + (1,))
            self.begin(row[2], place)
            self.body(row[3], {**names, row[2]: "int"}, place + (2,))
            return
        tree = row[2] if word in ("let", "set") else row[1]
        kind = self.tree(tree, names, place + (0,))
        wanted = {"if": "bool", "while": "bool", "fail": "int", "return": self.kind}.get(word, kind)
        if kind is not None and kind != wanted:
            self.found.append(place + (0,))
        for k, inner in enumerate(row[2:] if word in ("if", "while") else ()):
            self.body(inner, names, place + (k + 1,))
        if word == "let":
            self.begin(row[1], place)
            names[row[1]] = kind
        if word == "set" and kind is not None and names.get(row[1], "none") != kind:
            self.found.append(place)

    def tree(self, tree, names, place):
        """The type of an expression, or None behind a fault."""
        word = tree[0]
        parts = {
            "op": tree[2:], "item": tree[1:], "list": tree[-1], "call": tree[-1], "not": tree[1:], "neg": tree[1:],
            "size": tree[1:], "text of": tree[1:], "random": tree[1:]}.get(word, ())
        if word == "await":
            parts = {"act": tree[3:4], "timer": tree[2:], "flow": tree[-1]}.get(tree[1], ())
        kinds = tuple(self.tree(part, names, place + (k,)) for k, part in enumerate(parts))
        told = None if None in kinds else self.made(tree, kinds, names)
        if told is None:
            self.found.append(place)
        return told

    def made(self, tree, kinds, names):
        word = tree[1] if tree[0] in ("op", "await") else tree[0]
        is_list = kinds and isinstance(kinds[0], tuple)
        same = len(kinds) == 2 and kinds[0] == kinds[1]
        if word in ("int", "bool", "text", "nothing"):
            return word
        if word == "var":
            return names.get(tree[1])
        if word in "+-*/":
            return "int" if kinds == ("int", "int") else None
        if word == "&":
            return kinds[0] if same and (is_list or kinds[0] == "text") else None
        if word in ("=", "!="):
            return "bool" if same else None
        if word in ("<", "<="):
            return "bool" if kinds in (("int", "int"), ("text", "text")) else None
        if word in ("and", "or", "not"):
            return "bool" if set(kinds) == {"bool"} else None
        if word == "size":
            return "int" if is_list or kinds == ("text",) else None
        if word == "text of":
            return "text" if kinds[0] in ("int", "bool") else None
        if word == "now":
            return "int"
        if word in ("neg", "random", "timer"):
            return ("nothing" if word == "timer" else "int") if kinds == ("int",) else None
        if word == "list":
            return ("list", tree[1]) if all(kind == tree[1] for kind in kinds) else None
        if word == "item":
            return kinds[0][1] if is_list and kinds[1] == "int" else None
        if word in ("call", "flow"):
            name = tree[-2]
            return self.heads[name][1] if name in self.heads and tuple(self.heads[name][0]) == kinds else None
        return tree[-1]


def turned(tree):
    """An expression with its two parts turned, or with another sign or name."""
    if tree[0] == "op":
        return ("op", tree[1], tree[3], tree[2])
    if tree[0] == "item":
        return ("item", tree[2], tree[1])
    if tree[0] in ("list", "call"):
        return (tree[0], tree[1], tree[2][::-1])
    return ("not", tree)


class TestRandom(unittest.TestCase):
    def faulty(self, rng, body):
        """A body with a fault put in, or not, as it happens."""
        rows = spots(body)
        if not rows:
            return body
        word, path = rng.choice(rows)
        other = part_at(body, rng.choice([at for told, at in rows if told == word]))
        if word == "row":
            change = rng.choice([
                lambda row: [], lambda row: [row, row], lambda row: [other], lambda row: [row, other],
                lambda row: [("set", rng.choice(["na", "nb", "pa", "zz"]), ("int", 1))],
                lambda row: [("let", rng.choice(["na", "nb", "pa"]), ("int", 1)), row]])
        else:
            kind = rng.choice(KINDS)
            change = rng.choice([
                lambda tree: [other], lambda tree: [turned(tree)], lambda tree: [("neg", tree)],
                lambda tree: [("var", rng.choice(["na", "nb", "pa", "zz"]))],
                lambda tree: [self.maker.tree(kind, {}, 1)]])
        return changed(body, path, change)

    def test_programs(self):
        good = bad = 0
        for seed in range(1500):
            rng = random.Random(seed)
            self.maker = Maker(rng)
            program = self.maker.program()
            self.assertIsNone(check_untouched(self, check_program, program))
            for _ in range(rng.choice([1, 1, 2])):
                at = rng.randrange(len(program))
                _, name, params, kind, body = program[at]
                way = rng.random()
                if way < 0.1:
                    program = program[:at] + program[at + 1:] + [rng.choice(program)]
                elif way < 0.2:
                    program[at] = ("fn", name, params[::-1][:2], rng.choice(KINDS), body)
                else:
                    program[at] = ("fn", name, params, kind, self.faulty(rng, body))
            first = FirstFault(program).found[:1]
            before = copy.deepcopy(program)
            told = fault_of(check_program, program)
            self.assertEqual([told] if told is not None else [], first, seed)
            self.assertEqual(program, before)
            good += told is None
            bad += told is not None
        self.assertGreater(good, 200)
        self.assertGreater(bad, 400)

    def test_expressions(self):
        good = bad = 0
        for seed in range(1500):
            rng = random.Random(seed)
            maker = Maker(rng)
            program = maker.program()
            maker.at = 0
            kind = rng.choice(KINDS)
            tree = maker.tree(kind, NAMES, 4)
            self.assertEqual(check_untouched(self, type_of_expression, program, NAMES, tree), kind)
            for _ in range(rng.choice([1, 1, 2, 3])):
                rows = [path for _, path in tree_spots(tree, ())]
                other = part_at(tree, rng.choice(rows))
                change = rng.choice([
                    lambda one: [other], lambda one: [turned(one)], lambda one: [maker.tree(rng.choice(KINDS), NAMES, 1)],
                    lambda one: [("var", "zz")]])
                path = rng.choice(rows)
                tree = changed([tree], (0, *path), change)[0]
            finder = FirstFault(program)
            finder.found = []
            wanted = finder.tree(tree, NAMES, (0,))
            if finder.found:
                self.assertEqual(fault_of(type_of_expression, program, NAMES, tree), finder.found[0])
                bad += 1
            else:
                self.assertEqual(type_of_expression(program, NAMES, tree), wanted)
                good += 1
        self.assertGreater(good, 200)
        self.assertGreater(bad, 400)


class Typed(Meaning):
    """A run that looks at the types of all names and values."""

    def call(self, name, values, depth):
        _, _, params, kind, body = self.functions[name]
        assert depth > 31 or [value_kind_is(value, inner) for value, (_, inner) in zip(values, params)] == [True] * len(
            params)
        names = {told: value for (told, _), value in zip(params, values)}
        if depth > 31:
            raise Failure(4)
        try:
            self.body(body, names, depth)
        except Exception as told:
            if hasattr(told, "value"):
                assert value_kind_is(told.value, kind)
                return told.value
            raise
        raise AssertionError("a function has come to its end without a value")


def value_kind_is(value, kind):
    if isinstance(kind, tuple):
        return value[0] == "list" and all(value_kind_is(one, kind[1]) for one in value[1])
    return value[0] == kind


class TestRuns(unittest.TestCase):
    def test_runs_of_checked_programs(self):
        seen = 0
        for seed in range(600):
            rng = random.Random(seed)
            maker = Maker(rng)
            program = maker.program()
            at = rng.randrange(len(program))
            _, name, params, kind, body = program[at]
            tester = TestRandom()
            tester.maker = maker
            other = list(program)
            other[at] = ("fn", name, params, kind, tester.faulty(rng, body))
            if fault_of(check_program, other) is not None:
                continue
            for _, name, params, kind, _ in other:
                values = [random_value(rng, inner, True) for _, inner in params]
                outcome = Typed(other, answers_of(seed, other, 30), 600).run(name, values)
                if outcome[0] == "done":
                    self.assertTrue(value_kind_is(outcome[1], kind))
                    seen += 1
        self.assertGreater(seen, 100)


if __name__ == "__main__":
    unittest.main()

"""What several tests need: random checked programs, their texts, and runs of programs and of code."""

import copy

RESERVED = (
    "act and await bool catch do else fail false flow fn if int let not nothing now or random return set signal "
    "size text timer true try while").split()
LEVELS = {"or": 1, "and": 2, "=": 3, "!=": 3, "<": 3, "<=": 3, "&": 4, "+": 5, "-": 5, "*": 6, "/": 6}
KINDS = ("int", "bool", "text", "nothing", ("list", "int"), ("list", "text"), ("list", ("list", "int")))


def mutable_ids(thing):
    """The identities of all lists and dicts in a thing."""
    if isinstance(thing, dict):
        inner = [*thing.keys(), *thing.values()]
    elif isinstance(thing, (list, tuple)):
        inner = thing
    else:
        return set()
    found = {id(thing)} if isinstance(thing, (list, dict)) else set()
    for one in inner:
        found |= mutable_ids(one)
    return found


def check_untouched(case, function, *arguments):
    """Calls a function, and checks that it modifies no argument and shares nothing with one."""
    before = copy.deepcopy(arguments)
    told = function(*arguments)
    case.assertEqual(before, arguments)
    case.assertFalse(mutable_ids(told) & mutable_ids(arguments))
    return told


def told_of(state):
    """The moment of a state, and all attributes of its flows."""
    return state.moment, {number: dict(vars(flow)) for number, flow in state.flows.items()}


def random_value(rng, kind, small=False):
    """A value of a type, with bounds among them."""
    if kind == "int":
        if small:
            return ("int", rng.randint(-3, 12))
        return ("int", rng.choice([0, 1, -1, 7, 10 ** 12, -10 ** 12, rng.randint(-10 ** 12, 10 ** 12)]))
    if kind == "bool":
        return ("bool", rng.random() < 0.5)
    if kind == "text":
        size = rng.choice([0, 1, 2, 3, 60 if not small else 4])
        return ("text", "".join(rng.choice('" ~a,[]') for _ in range(size)))
    if kind == "nothing":
        return ("nothing",)
    size = rng.choice([0, 0, 1, 2, 3])
    if not small and kind[1] == "int":
        size = rng.choice([0, 1, 2, 20])
    return ("list", tuple(random_value(rng, kind[1], small) for _ in range(size)))


class Maker:
    """Makes random checked programs."""

    def __init__(self, rng, loops=True, rings=True, asking=True):
        self.rng = rng
        self.loops = loops
        self.rings = rings
        self.asking = asking

    def program(self):
        many = self.rng.randint(1, 4)
        self.heads = []
        for at in range(many):
            params = [
                ("p" + "abc"[k], self.rng.choice(KINDS)) for k in range(self.rng.choice([0, 1, 1, 2, 3]))]
            self.heads.append(("f" + "dcba"[at], params, self.rng.choice(KINDS[:5])))
        return [self.function(at) for at in range(many)]

    def function(self, at):
        name, params, kind = self.heads[at]
        self.at = at
        self.kind = kind
        self.count = 0
        body = self.body(dict(params), 1)
        body.append(("return", self.tree(kind, dict(params), 2)))
        return ("fn", name, list(params), kind, body)

    def fresh(self):
        self.count += 1
        return "n" + "".join("abcdefghij"[int(digit)] for digit in str(self.count))

    def body(self, names, depth):
        names = dict(names)
        return [self.statement(names, depth) for _ in range(self.rng.choice([0, 1, 1, 2, 3]))]

    def statement(self, names, depth):
        rng = self.rng
        word = rng.choice(["let", "let", "set", "do", "if", "while", "try", "return", "fail"])
        if word in ("if", "while", "try") and depth > 3 or word == "while" and not self.loops:
            word = "do"
        if word == "set" and not names:
            word = "let"
        if word == "let":
            kind = rng.choice(KINDS)
            tree = self.tree(kind, names, 3)
            name = self.fresh()
            names[name] = kind
            return ("let", name, tree)
        if word == "set":
            name = rng.choice(sorted(names))
            return ("set", name, self.tree(names[name], names, 3))
        if word == "do":
            return ("do", self.tree(rng.choice(KINDS), names, 3))
        if word == "return":
            return ("return", self.tree(self.kind, names, 2))
        if word == "fail":
            return ("fail", rng.choice([("int", rng.choice([0, 99, 100, 999, 1000])), self.tree("int", names, 1)]))
        if word == "if":
            return ("if", self.tree("bool", names, 2), self.body(names, depth + 1), self.body(names, depth + 1))
        if word == "while":
            return ("while", self.tree("bool", names, 2), self.body(names, depth + 1))
        first = self.body(names, depth + 1)
        name = self.fresh()
        return ("try", first, name, self.body({**names, name: "int"}, depth + 1))

    def tree(self, kind, names, depth):
        rng = self.rng
        plain = [self.literal] if kind != "int" else [self.literal, self.literal]
        if kind in names.values():
            plain += [self.variable, self.variable]
        if depth == 0:
            return rng.choice(plain)(kind, names, depth)
        if self.asking and rng.random() < 0.15:
            return self.asked(kind, names, depth)
        return rng.choice(plain + [self.deep] * 5)(kind, names, depth)

    def literal(self, kind, names, depth):
        if kind == "int":
            return ("int", self.rng.choice([0, 1, 2, 3, 5, 100, 404, 10 ** 12]))
        if isinstance(kind, tuple):
            return ("list", kind[1], [])
        return random_value(self.rng, kind, True)

    def variable(self, kind, names, depth):
        return ("var", self.rng.choice(sorted(name for name in names if names[name] == kind)))

    def asked(self, kind, names, depth):
        rng = self.rng
        ways = [
            lambda: ("await", "signal", rng.choice(["go", "stop"]), kind),
            lambda: ("await", "act", rng.choice(["pay", "send"]), self.tree(rng.choice(KINDS), names, depth - 1), kind)]
        if kind == "nothing":
            ways.append(lambda: ("await", "timer", self.tree("int", names, depth - 1)))
        if kind == "int":
            ways += [lambda: ("now",), lambda: ("random", self.tree("int", names, depth - 1))]
        for name, params, told in self.heads:
            if told == kind:
                args = [inner for _, inner in params]
                ways.append(lambda name=name, args=args: (
                    "await", "flow", name, [self.tree(inner, names, depth - 1) for inner in args]))
        return rng.choice(ways)()

    def deep(self, kind, names, depth):
        rng = self.rng
        part = lambda inner: self.tree(inner, names, depth - 1)
        ways = []
        if kind == "int":
            ways += [lambda: ("op", rng.choice("+-*/"), part("int"), part("int"))] * 3
            ways += [lambda: ("neg", part("int")), lambda: ("size", part(rng.choice(["text", ("list", "int")])))]
        elif kind == "bool":
            ways += [lambda: ("op", rng.choice(["and", "or"]), part("bool"), part("bool"))] * 2
            ways += [lambda: ("not", part("bool")), lambda: self.compared(part)] * 2
        elif kind == "text":
            ways += [lambda: ("op", "&", part("text"), part("text")),
                     lambda: ("text of", part(rng.choice(["int", "bool"])))]
        elif isinstance(kind, tuple):
            ways += [lambda: ("op", "&", part(kind), part(kind)),
                     lambda: ("list", kind[1], [part(kind[1]) for _ in range(rng.randint(0, 3))])]
        if ("list", kind) in KINDS:
            ways.append(lambda: ("item", part(("list", kind)), part("int")))
        for at, (name, params, told) in enumerate(self.heads):
            if told == kind and (self.rings or at > self.at):
                args = [inner for _, inner in params]
                ways.append(lambda name=name, args=args: ("call", name, [part(inner) for inner in args]))
        return rng.choice(ways)() if ways else self.literal(kind, names, depth)

    def compared(self, part):
        sign = self.rng.choice(["=", "!=", "<", "<="])
        kind = self.rng.choice(["int", "text"] if "<" in sign else KINDS)
        return ("op", sign, part(kind), part(kind))


class AnyMaker:
    """Makes random programs and expressions that a text can give, whether their types fit or not."""

    def __init__(self, rng):
        self.rng = rng

    def name(self):
        return "".join(self.rng.choice("abz") for _ in range(self.rng.choice([1, 1, 2, 8])))

    def kind(self, most=6):
        kind = self.rng.choice(["int", "bool", "text", "nothing"])
        for _ in range(self.rng.choice([0, 0, 0, 1, 2, most])):
            kind = ("list", kind)
        return kind

    def trees(self, depth):
        return [self.tree(depth - 1) for _ in range(self.rng.choice([0, 1, 2, 3]))]

    def tree(self, depth):
        rng = self.rng
        part = lambda: self.tree(depth - 1)
        if depth == 0 or rng.random() < 0.1:
            return rng.choice([
                lambda: ("int", rng.choice([0, 7, 10 ** 12])), lambda: random_value(rng, "bool"),
                lambda: random_value(rng, "text"), lambda: ("nothing",), lambda: ("var", self.name()), lambda: ("now",),
                lambda: ("list", self.kind(5), []), lambda: ("call", self.name(), []),
                lambda: ("await", "signal", self.name(), self.kind()), lambda: ("await", "flow", self.name(), [])])()
        return rng.choice([lambda: ("op", rng.choice(list(LEVELS)), part(), part())] * 8 + [
            lambda: ("not", part()), lambda: ("neg", part()), lambda: ("item", part(), part()),
            lambda: ("list", self.kind(5), self.trees(depth)), lambda: ("size", part()), lambda: ("text of", part()),
            lambda: ("random", part()), lambda: ("call", self.name(), self.trees(depth)),
            lambda: ("await", "act", self.name(), part(), self.kind()), lambda: ("await", "timer", part()),
            lambda: ("await", "flow", self.name(), self.trees(depth))])()

    def body(self, depth):
        return [self.statement(depth) for _ in range(self.rng.choice([0, 1, 2, 3]))]

    def statement(self, depth):
        rng = self.rng
        word = rng.choice(["let", "set", "return", "do", "fail", "if", "if", "while", "try"] if depth else ["do", "let"])
        if word in ("let", "set"):
            return (word, self.name(), self.tree(3))
        if word in ("return", "do", "fail"):
            return (word, self.tree(3))
        if word == "while":
            return (word, self.tree(3), self.body(depth - 1))
        if word == "if":
            return (word, self.tree(3), self.body(depth - 1), self.body(depth - 1))
        return (word, self.body(depth - 1), self.name(), self.body(depth - 1))

    def program(self):
        return [("fn", self.name(), [(self.name(), self.kind()) for _ in range(self.rng.choice([0, 1, 2, 8]))],
                 self.kind(), self.body(3)) for _ in range(self.rng.choice([1, 1, 2]))]


def spots(thing, path=()):
    """The paths of all expressions in the statements of a body, of all bodies, and of all statements."""
    rows = []
    for k, row in enumerate(thing):
        rows.append(("row", path + (k,)))
        for n, part in enumerate(row):
            if isinstance(part, tuple):
                rows += tree_spots(part, path + (k, n))
            elif isinstance(part, list):
                rows += spots(part, path + (k, n))
    return rows


def tree_spots(tree, path):
    rows = [("tree", path)]
    for n, part in enumerate(tree[1:], 1):
        if isinstance(part, list):
            rows += [row for k, inner in enumerate(part) for row in tree_spots(inner, path + (n, k))]
        elif isinstance(part, tuple) and part and part[0] != "list" or isinstance(part, tuple) and len(part) == 3:
            rows += tree_spots(part, path + (n,))
    return rows


def part_at(thing, path):
    for k in path:
        thing = thing[k]
    return thing


def changed(thing, path, change):
    """A copy in which what stands at a path has been given to a function that may make several things of it."""
    if len(path) == 1 and isinstance(thing, list):
        return thing[:path[0]] + change(thing[path[0]]) + thing[path[0] + 1:]
    if not path:
        return change(thing)[0]
    rows = list(thing)
    rows[path[0]] = changed(thing[path[0]], path[1:], change)
    return tuple(rows) if isinstance(thing, tuple) else rows


def kind_words(kind):
    return ["[", *kind_words(kind[1]), "]"] if isinstance(kind, tuple) else [kind]


def listed_words(rows):
    words = []
    for k, row in enumerate(rows):
        words += ([","] if k else []) + row
    return words


def tree_words(tree, rng=None, least=0):
    """The words of an expression, in parentheses where it binds less, or by chance."""
    word = tree[0]
    if word == "op":
        level = LEVELS[tree[1]]
        left = level + 1 if level == 3 else level
        words = [*tree_words(tree[2], rng, left), tree[1], *tree_words(tree[3], rng, level + 1)]
    elif word in ("not", "neg"):
        level = 7
        words = ["not" if word == "not" else "-", *tree_words(tree[1], rng, 7)]
    else:
        level = 8
        words = closed_words(tree, rng)
    if level < least or rng is not None and rng.random() < 0.05:
        return ["(", *words, ")"]
    return words


def closed_words(tree, rng):
    word = tree[0]
    if word == "int":
        return [str(tree[1])]
    if word == "bool":
        return ["true" if tree[1] else "false"]
    if word == "text":
        return ['"' + tree[1].replace('"', '""') + '"']
    if word in ("nothing", "now"):
        return [word]
    if word == "var":
        return [tree[1]]
    if word == "item":
        return [*tree_words(tree[1], rng, 8), "[", *tree_words(tree[2], rng), "]"]
    if word == "list":
        return ["[", *kind_words(tree[1]), ":", *listed_words([tree_words(one, rng) for one in tree[2]]), "]"]
    if word in ("size", "text of", "random"):
        return [word.split()[0], "(", *tree_words(tree[1], rng), ")"]
    if word == "call":
        return [tree[1], "(", *listed_words([tree_words(one, rng) for one in tree[2]]), ")"]
    if tree[1] == "act":
        return ["await", "act", tree[2], "(", *tree_words(tree[3], rng), ")", ":", *kind_words(tree[4])]
    if tree[1] == "timer":
        return ["await", "timer", "(", *tree_words(tree[2], rng), ")"]
    if tree[1] == "signal":
        return ["await", "signal", tree[2], ":", *kind_words(tree[3])]
    return ["await", "flow", tree[2], "(", *listed_words([tree_words(one, rng) for one in tree[3]]), ")"]


def body_words(body, rng):
    words = ["{"]
    for row in body:
        words += statement_words(row, rng)
    return words + ["}"]


def statement_words(row, rng):
    word = row[0]
    if word in ("let", "set"):
        return [word, row[1], "=", *tree_words(row[2], rng), ";"]
    if word in ("return", "do", "fail"):
        return [word, *tree_words(row[1], rng), ";"]
    if word == "while":
        return [word, *tree_words(row[1], rng), *body_words(row[2], rng)]
    if word == "try":
        return [word, *body_words(row[1], rng), "catch", row[2], *body_words(row[3], rng)]
    other = ["else", *body_words(row[3], rng)] if row[3] or rng is not None and rng.random() < 0.3 else []
    return [word, *tree_words(row[1], rng), *body_words(row[2], rng), *other]


def program_words(program, rng=None):
    words = []
    for _, name, params, kind, body in program:
        rows = [[told, ":", *kind_words(inner)] for told, inner in params]
        words += ["fn", name, "(", *listed_words(rows), ")", ":", *kind_words(kind), *body_words(body, rng)]
    return words


def spaced(words, rng=None):
    """The text of words and the list of their places, with what may stand between words."""
    text, places = "", []
    for word in words:
        close = text[-1:].isalnum() and word[0].isalnum() or text[-1:] + word[0] in ("<=", "!=", '""')
        if rng is None:
            text += " " if text else ""
        else:
            text += rng.choice(["", "", " ", "\n", "  ", " # no word \"\n", "#\n"]) or (" " if close else "")
        places.append(len(text))
        text += word
    return text, places


class Failure(Exception):
    """A failure of a run, with its code."""

    def __init__(self, code):
        self.code = code


class Pause(Exception):
    """The outcome of a run that does not end by itself."""

    def __init__(self, outcome):
        self.outcome = outcome


class Return(Exception):
    """A value that a call gives."""

    def __init__(self, value):
        self.value = value


def whole(n):
    if abs(n) > 10 ** 12:
        raise Failure(2)
    return ("int", n)


def worked_out(word, sign, values):
    """What an operation makes of values, by the words of point 40."""
    if word == "op" and sign in "+-*/":
        m, n = values[0][1], values[1][1]
        if sign == "/" and n == 0:
            raise Failure(1)
        return whole({"+": m + n, "-": m - n, "*": m * n}[sign] if sign != "/" else m // n)
    if word == "op" and sign == "&":
        both = values[0][1] + values[1][1]
        if len(both) > (60 if values[0][0] == "text" else 20):
            raise Failure(2)
        return (values[0][0], both)
    if word == "op":
        one, other = values
        return ("bool", {
            "=": lambda: one == other, "!=": lambda: one != other,
            "<": lambda: one[1] < other[1], "<=": lambda: one[1] <= other[1]}[sign]())
    if word == "not":
        return ("bool", not values[0][1])
    if word == "neg":
        return ("int", -values[0][1])
    if word == "size":
        return ("int", len(values[0][1]))
    if word == "text of":
        return ("text", str(values[0][1]).lower())
    items, index = values[0][1], values[1][1]
    if not 0 <= index < len(items):
        raise Failure(3)
    return items[index]


def has_kind(value, kind):
    """Whether a value has a type."""
    if isinstance(kind, tuple):
        return value[0] == "list" and all(has_kind(one, kind[1]) for one in value[1])
    return value[0] == kind


def all_kinds(depth=6):
    """All types, with lists so deep at most."""
    kinds = ["int", "bool", "text", "nothing"]
    for _ in range(depth):
        kinds += [("list", kind) for kind in kinds[-4:]]
    return kinds


# The types of the parts of each operation, by point 20.
LISTS = [kind for kind in all_kinds() if isinstance(kind, tuple)]
NEEDED = {
    **{sign: [("int", "int")] for sign in "+-*/"}, **{sign: [("int", "int"), ("text", "text")] for sign in ("<", "<=")},
    "&": [(kind, kind) for kind in ["text", *LISTS]], "not": [("bool",)], "neg": [("int",)],
    "size": [(kind,) for kind in ["text", *LISTS]], "text of": [("int",), ("bool",)],
    "item": [(kind, "int") for kind in LISTS]}


def needed(word, values):
    """Whether values have types that an operation needs."""
    return word in ("=", "!=") or any(
        all(has_kind(value, kind) for value, kind in zip(values, kinds)) for kinds in NEEDED[word])


class Meaning:
    """Runs a program by its trees (points 70 to 72); what answers gives is asked with each request."""

    def __init__(self, program, answer, most):
        self.functions = {row[1]: row for row in program}
        self.answer = answer
        self.left = most
        self.requests = []

    def run(self, name, values):
        try:
            return ("done", self.call(name, values, 1))
        except Failure as failure:
            return ("failed", failure.code)
        except Pause as pause:
            return pause.outcome

    def need(self, fulfilled):
        """A run whose values and answers have their types never meets another one (point 23)."""
        assert fulfilled

    def call(self, name, values, depth):
        if depth > 31:
            raise Failure(4)
        _, _, params, _, body = self.functions[name]
        self_names = {told: value for (told, _), value in zip(params, values)}
        try:
            self.body(body, self_names, depth)
        except Return as told:
            return told.value
        return ("nothing",)

    def body(self, body, names, depth):
        for row in body:
            self.count()
            self.statement(row, names, depth)

    def count(self):
        if self.left == 0:
            raise Pause(("tired",))
        self.left -= 1

    def statement(self, row, names, depth):
        word = row[0]
        if word == "try":
            try:
                self.body(row[1], names, depth)
            except Failure as failure:
                names[row[2]] = ("int", failure.code)
                self.body(row[3], names, depth)
            return
        if word == "while":
            while self.number(row[1], names, depth, "bool"):
                self.body(row[2], names, depth)
                self.count()
            return
        if word in ("let", "set"):
            names[row[1]] = self.tree(row[2], names, depth)
            return
        if word == "if":
            self.body(row[2] if self.number(row[1], names, depth, "bool") else row[3], names, depth)
            return
        if word == "fail":
            code = self.number(row[1], names, depth, "int")
            raise Failure(code if 100 <= code <= 999 else 2)
        value = self.tree(row[1], names, depth)
        if word == "return":
            raise Return(value)

    def number(self, tree, names, depth, kind):
        value = self.tree(tree, names, depth)
        self.need(value[0] == kind)
        return value[1]

    def tree(self, tree, names, depth):
        word = tree[0]
        every = lambda parts: [self.tree(part, names, depth) for part in parts]
        if word in ("int", "bool", "text", "nothing"):
            return tree
        if word == "var":
            self.need(tree[1] in names)
            return names[tree[1]]
        if word == "op" and tree[1] in ("and", "or"):
            first = self.number(tree[2], names, depth, "bool")
            return ("bool", first) if first == (tree[1] == "or") else self.tree(tree[3], names, depth)
        if word == "op":
            values = every(tree[2:])
            self.need(needed(tree[1], values))
            return worked_out("op", tree[1], values)
        if word == "list":
            values = every(tree[2])
            self.need(all(has_kind(value, tree[1]) for value in values))
            return ("list", tuple(values))
        if word == "call":
            return self.call(tree[1], every(tree[2]), depth + 1)
        if word == "now":
            return self.ask(("now",))
        if word == "random":
            return self.ask(("random", self.number(tree[1], names, depth, "int")))
        if word == "await" and tree[1] == "timer":
            return self.ask(("timer", self.number(tree[2], names, depth, "int")))
        if word == "await":
            return self.awaited(tree, every)
        values = every(tree[1:])
        self.need(needed(word, values))
        return worked_out(word, None, values)

    def awaited(self, tree, every):
        if tree[1] == "act":
            return self.ask(("act", tree[2], every([tree[3]])[0], tree[4]))
        if tree[1] == "signal":
            return self.ask(("signal", tree[2], tree[3]))
        return self.ask(("flow", tree[2], tuple(every(tree[3]))))

    def ask(self, request):
        if request[0] == "timer" and request[1] < 0 or request[0] == "random" and request[1] < 1:
            raise Failure(2)
        self.requests.append(request)
        told = self.answer(request)
        if told is None:
            raise Pause(("waits", request))
        if told[0] == "failed":
            raise Failure(told[1])
        return told[1]


class Moved(Meaning):
    """A run that may have answers of other types, as a flow that has moved may have: what needs others fails with 2."""

    def need(self, fulfilled):
        if not fulfilled:
            raise Failure(2)


class Stepping:
    """Runs code instruction by instruction (points 41 and 46 to 48)."""

    def __init__(self, codes, answer, most):
        self.codes = codes
        self.answer = answer
        self.most = most
        self.steps = 0
        self.requests = []

    def run(self, name, values):
        self.frames = []
        self.begin(name, values)
        while self.steps < self.most:
            try:
                told = self.step()
            except Failure as failure:
                told = self.fall(failure.code)
            except Pause as pause:
                told = pause.outcome
            if told is not None:
                return told
        return ("tired",)

    def begin(self, name, values):
        if len(self.frames) == 31:
            raise Failure(4)
        code = self.codes[name]
        slots = list(values) + [None] * (code[3] - len(values))
        self.frames.append({"rows": code[4], "at": 0, "slots": slots, "stack": [], "guards": []})

    def fall(self, code):
        while self.frames:
            frame = self.frames[-1]
            if frame["guards"]:
                place, slot, height = frame["guards"].pop()
                del frame["stack"][height:]
                frame["slots"][slot] = ("int", code)
                frame["at"] = place
                return None
            self.frames.pop()
        return ("failed", code)

    def step(self):
        frame = self.frames[-1]
        row = frame["rows"][frame["at"]]
        stack = frame["stack"]
        self.steps += 1
        frame["at"] += 1
        word = row[0]
        if word == "push":
            stack.append(row[1])
        elif word == "get":
            assert frame["slots"][row[1]] is not None
            stack.append(frame["slots"][row[1]])
        elif word == "put":
            frame["slots"][row[1]] = stack.pop()
        elif word == "drop":
            stack.pop()
        elif word == "jump":
            frame["at"] = row[1]
        elif word == "unless":
            frame["at"] = frame["at"] if stack.pop()[1] else row[1]
        elif word == "guard":
            frame["guards"].append((row[1], row[2], len(stack)))
        elif word == "unguard":
            frame["guards"].pop()
        elif word == "fail":
            code = stack.pop()[1]
            raise Failure(code if 100 <= code <= 999 else 2)
        elif word == "return":
            value = stack.pop()
            assert not stack
            self.frames.pop()
            if not self.frames:
                return ("done", value)
            self.frames[-1]["stack"].append(value)
        elif word == "call":
            self.begin(row[1], self.top(stack, row[2]))
        elif word == "ask":
            stack.append(self.ask(row, stack))
        elif word == "list":
            if row[2] > 20:
                raise Failure(2)
            stack.append(("list", tuple(self.top(stack, row[2]))))
        else:
            many = 2 if word in ("op", "item") else 1
            stack.append(worked_out(word, row[1] if word == "op" else None, self.top(stack, many)))
        return None

    def top(self, stack, many):
        values = stack[len(stack) - many:]
        del stack[len(stack) - many:]
        return values

    def ask(self, row, stack):
        if row[1] == "act":
            request = ("act", row[2], stack.pop(), row[3])
        elif row[1] in ("timer", "random"):
            request = (row[1], stack.pop()[1])
        elif row[1] == "flow":
            request = ("flow", row[2], tuple(self.top(stack, row[3])))
        else:
            request = row[1:]
        return Meaning.ask(self, request)


def answers_of(seed, program, many):
    """A function that answers requests by chance, the same for each run with the same seed."""
    import random
    rng = random.Random(seed)
    kinds = {row[1]: row[3] for row in program}
    left = [many]

    def answer(request):
        if left[0] == 0:
            return None
        left[0] -= 1
        if rng.random() < 0.15:
            return ("failed", rng.choice([4, 5, 6, 100, 404, 999]))
        word = request[0]
        if word == "act":
            return ("ok", random_value(rng, request[3], True))
        if word == "signal":
            return ("ok", random_value(rng, request[2], True))
        if word == "flow":
            return ("ok", random_value(rng, kinds[request[1]], True))
        if word == "timer":
            return ("ok", ("nothing",))
        if word == "random":
            return ("ok", ("int", rng.randrange(request[1])))
        return ("ok", ("int", rng.randint(0, 50)))

    return answer


def wanted_kind(program, flow):
    """The type of the answer that a flow waits for, or None."""
    given = list(flow.answers)
    outcome = Meaning(program, lambda request: given.pop(0) if given else None, 60).run(flow.function, flow.given)
    if outcome[0] != "waits" or outcome[1][0] not in ("act", "signal"):
        return None
    return outcome[1][-1]


def deed_for(rng, world, crashes=0.05):
    """A deed for a world, chosen by chance."""
    flows = world.engine.state.flows if world.engine is not None else {}
    way = rng.random()
    if world.engine is None:
        if way < 0.5:
            return ("open",)
        if way > crashes + 0.5:
            return rng.choice([
                ("begin", rng.choice(world.program)[1], []), ("tick", 3), ("signal", 1, "go", ("int", 1)), ("off", 1),
                ("bring", 0, ("ok", ("int", 1))), ("turn",), ("end", 1)])
        way = 0
    if way < crashes:
        left = len(world.journal.text) - world.journal.safe
        return ("crash", rng.choice([0, left, left + 7, rng.randrange(left + 1)]))
    if way < 0.12:
        return rng.choice([("open",), ("end", rng.randrange(len(flows) + 3)), ("tick", 0)])
    if way < 0.25 and len(flows) < 12 or not flows:
        _, name, params, _, _ = rng.choice(world.program)
        values = [random_value(rng, kind, True) for _, kind in params]
        if rng.random() < 0.1:
            return rng.choice([("begin", name, values + [("int", 1)]), ("begin", "other", values),
                               ("begin", name, [random_value(rng, rng.choice(KINDS), True) for _ in values])])
        return ("begin", name, values)
    if way < 0.45:
        return ("turn",)
    if way < 0.6:
        return ("tick", rng.choice([0, 1, 2, 4, 9, 10, 30]))
    number = rng.randrange(-1, len(flows) + 3)
    going = [told for told in flows if flows[told].end is None]
    if going and rng.random() < 0.8:
        number = rng.choice(going)
    if way < 0.63:
        return ("off", number)
    if way < 0.75:
        kind = wanted_kind(world.program, flows[number]) if number in flows else None
        if kind is None or rng.random() < 0.3:
            kind = rng.choice(KINDS)
        return ("signal", number, rng.choice(["go", "stop"]), random_value(rng, kind, True))
    k = rng.randrange(-2, len(world.tasks) + 2)
    if world.tasks and rng.random() < 0.8:
        k = rng.randrange(max(0, len(world.tasks) - 4), len(world.tasks))
    number = world.tasks[k][1][0] if 0 <= k < len(world.tasks) else 0
    kind = wanted_kind(world.program, flows[number]) if number in flows else None
    if kind is None or rng.random() < 0.15:
        kind = rng.choice(KINDS)
    return ("bring", k, rng.choice([("ok", random_value(rng, kind, True))] * 3 + [
        ("failed", rng.choice([99, 100, 404, 999, 1000, 5]))]))

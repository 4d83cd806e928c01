"""Runs of programs by what they mean."""

from flowreprise.failures import MOST_CALLS, OTHER_TYPE, TOO_GREAT, TOO_MANY, raised_code
from flowreprise.parts import LITERALS, expression_of, parts_of
from flowreprise.requests import may_ask
from flowreprise.strays import is_needed, made_of_any, named

DECIDING = {"and": False, "or": True}


class Course:
    """A run on its way: what is still to be done, the last thing first.

    Calls stand in it behind one another instead of inside one another, as 31
    calls with deep expressions are more than Python itself can have inside
    one another.
    """

    def __init__(self, program, answers, most):
        self.functions = {function[1]: function for function in program}
        self.answers = list(answers)
        self.left = most
        self.requests = []
        self.end = None
        self.tasks = []
        self.results = []
        self.names = []

    def begin(self, function, values):
        """Begins a call."""
        _, _, params, _, body = self.functions[function]
        self.names.append({name: value for (name, _), value in zip(params, values)})
        self.tasks.append(("call over",))
        self.tasks.append(("body", body, 0))

    def go_on(self):
        """Does what is due until there is an outcome, and returns it."""
        while self.end is None:
            if self.tasks:
                self.do(self.tasks.pop())
            else:
                self.end = ("done", self.results.pop())
        return self.end

    def do(self, task):
        """Does one thing."""
        word = task[0]
        if word == "tree":
            self.evaluate(task[1])
        elif word == "parts made":
            self.put_together(task[1])
        elif word == "first made":
            self.decide(task[1])
        elif word == "body":
            self.follow(task[1], task[2])
        elif word == "statement":
            self.finish(task[1], self.results.pop())
        elif word == "again":
            if self.may_begin():
                self.look_at(task[1])
        elif word == "call over":
            self.names.pop()
            self.results.append(("nothing",))

    def may_begin(self):
        """Counts a statement, and returns whether it may begin."""
        if self.left == 0:
            self.end = ("tired",)
            return False
        self.left -= 1
        return True

    def follow(self, body, at):
        """Begins the statement of a body with an index, behind which the next ones follow."""
        if at == len(body) or not self.may_begin():
            return
        statement = body[at]
        self.tasks.append(("body", body, at + 1))
        if statement[0] == "try":
            self.tasks.append(("caught", statement, len(self.results)))
            self.tasks.append(("body", statement[1], 0))
        else:
            self.look_at(statement)

    def look_at(self, statement):
        """Evaluates the expression of a statement, and then does the rest of it."""
        self.tasks.append(("statement", statement))
        self.tasks.append(("tree", expression_of(statement)))

    def finish(self, statement, value):
        """Does what a statement does with the value of its expression."""
        word = statement[0]
        if word in ("let", "set"):
            self.names[-1][statement[1]] = value
        elif word == "return":
            self.give_back(value)
        elif not is_needed(statement, value):
            self.fail(OTHER_TYPE)
        elif word == "fail":
            self.fail(raised_code(value[1]))
        elif word == "if":
            self.tasks.append(("body", statement[2] if value[1] else statement[3], 0))
        elif word == "while" and value[1]:
            self.tasks.append(("again", statement))
            self.tasks.append(("body", statement[2], 0))

    def give_back(self, value):
        """Ends the innermost call with a value."""
        while self.tasks.pop()[0] != "call over":
            pass
        self.names.pop()
        self.results.append(value)

    def fail(self, code):
        """Lets a failure end bodies and calls, up to a "try"."""
        while self.tasks:
            task = self.tasks.pop()
            if task[0] == "call over":
                self.names.pop()
            if task[0] == "caught":
                _, (_, _, name, body), height = task
                self.results = self.results[:height]
                self.names[-1][name] = ("int", code)
                self.tasks.append(("body", body, 0))
                return
        self.end = ("failed", code)

    def evaluate(self, tree):
        """Evaluates an expression, or begins to."""
        word = tree[0]
        if word in LITERALS:
            self.results.append(tree)
        elif word == "var":
            self.take(named(self.names[-1], tree[1]))
        elif word == "op" and tree[1] in DECIDING:
            self.tasks.append(("first made", tree))
            self.tasks.append(("tree", tree[2]))
        else:
            self.tasks.append(("parts made", tree))
            self.tasks.extend([("tree", part) for part in reversed(parts_of(tree))])

    def decide(self, tree):
        """Evaluates the second part of "and" or "or" if the first one does not decide."""
        first = self.results[-1]
        if first[0] != "bool":
            self.fail(OTHER_TYPE)
        elif first[1] != DECIDING[tree[1]]:
            self.results.pop()
            self.tasks.append(("tree", tree[3]))

    def put_together(self, tree):
        """Makes the value of an expression of those of its parts."""
        height = len(self.results) - len(parts_of(tree))
        values = self.results[height:]
        self.results = self.results[:height]
        if tree[0] == "call":
            self.call(tree[1], values)
        elif tree[0] in ("await", "now", "random"):
            self.ask(_requested(tree, values))
        else:
            self.take(made_of_any(tree, values))

    def take(self, result):
        """Takes a value or a failure."""
        word, told = result
        if word == "ok":
            self.results.append(told)
        else:
            self.fail(told)

    def call(self, function, values):
        """Begins a call out of another one, or fails if there are too many."""
        if len(self.names) == MOST_CALLS:
            self.fail(TOO_MANY)
        else:
            self.begin(function, values)

    def ask(self, request):
        """Makes a request and takes its answer, or waits."""
        if request is None or not may_ask(request):
            self.fail(TOO_GREAT)
            return
        index = len(self.requests)
        self.requests.append(request)
        if index < len(self.answers):
            self.take(self.answers[index])
        else:
            self.end = ("waits", request)


def _requested(tree, values):
    """Returns the request that an expression makes with the values of its parts, or None without a needed integer."""
    if tree[0] == "now":
        return ("now",)
    if tree[0] == "random":
        return _counted("random", values[0])
    if tree[1] == "act":
        return ("act", tree[2], values[0], tree[4])
    if tree[1] == "signal":
        return ("signal", tree[2], tree[3])
    if tree[1] == "flow":
        return ("flow", tree[2], tuple(values))
    return _counted("timer", values[0])


def _counted(word, value):
    return (word, value[1]) if value[0] == "int" else None


def run(program, function, values, answers, most):
    """Returns the outcome and the list of the requests of a run, in at most so many statements."""
    course = Course(program, answers, most)
    course.begin(function, values)
    return course.go_on(), course.requests

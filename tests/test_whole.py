"""What the document promises over the whole program: checking, meaning, machines and tiered machines agree."""

import random
import unittest

from flowreprise.checking import check_program
from flowreprise.compiling import compile_program, signatures
from flowreprise.effects import allows_failure, allows_request, effects
from flowreprise.engines import Engine
from flowreprise.journals import Journal
from flowreprise.machine import Machine, resumed
from flowreprise.meaning import run
from flowreprise.printing import show_program
from flowreprise.steps import outcome_of
from flowreprise.tiers import Tiered
from flowreprise.trees import read_program
from flowreprise.vaults import Vault
from flowreprise.verifying import paper_right, verify
from tests.helper import KINDS, Maker, Meaning, answers_of, random_value, told_of

PROGRAMS = [read_program(text) for text in (
    """fn main(n: int): int {
      let s = 0; let k = 0;
      while k < n {
        set k = k + 1;
        try { let a = await act pay(k): int; set s = s + 6 / a; } catch c { set s = s * 2 + c; }
      }
      return s; }""",
    """fn main(n: int): int {
      try { do await timer(n); let r = [int: 1, 2]; return r[random(3)]; } catch c {
        if c = 3 { return await flow other("a" & text(n)); } fail c + 1; } }
    fn other(t: text): int { return size(t); }""",
    """fn main(n: int): int { return f(n) + now; }
    fn f(n: int): int { if n < 1 { return await signal go: int; } let k = 0;
      while k < 5 { set k = k + 1; if k = n { try { return f(n - 1); } catch e { set k = e; } } } return k - f(0); }""",
    """fn main(n: int): int { let k = 0; let t = "";
      while not (t = "xxx") { set t = t & await act next(k): text; set k = k + 1; if k < n or size(t) < 2 and true { do now; } }
      return size(t) * 100 + k; }""")]


class Case(unittest.TestCase):
    def begin(self, program, name, values):
        self.program, self.name, self.values = program, name, list(values)
        self.assertIsNone(check_program(program))
        self.codes, sorts = compile_program(program), signatures(program)
        self.assertTrue(paper_right(self.codes, sorts, verify(self.codes, sorts)))
        self.known = effects(program)[name]

    def machines(self, answers, rng):
        """A machine and a tiered one that have had answers, with promotions and demotions between their runs."""
        plain, tiered = Machine(self.codes, self.name, self.values), Tiered(self.codes, self.name, self.values)
        for answer in [*answers, None]:
            for _ in range(400):
                name = rng.choice(sorted(self.codes))
                way = rng.random()
                if way < 0.3:
                    count = self.codes[name][2]
                    known = {slot: value for slot, value in enumerate(self.values[:count]) if rng.random() < 0.5}
                    tiered.promote(name, known if name == self.name else {}, rng.choice([0, 1, 1, 2, 4]))
                elif way < 0.35:
                    tiered.demote(name)
                most = rng.choice([1, 3, 9, 30, 100])
                outcome = plain.run(most)
                self.assertEqual(tiered.run(most), outcome)
                self.assertEqual((tiered.saved(), tiered.frames()), (plain.saved(), plain.frames()))
                if outcome != ("tired",):
                    break
            if answer is not None and plain.asked is not None:
                plain.answer(answer)
                tiered.answer(answer)
        return plain, tiered

    def check(self, answers, rng):
        """Checks the meaning with answers beside the machines, and returns its outcome."""
        outcome, requests = run(self.program, self.name, self.values, answers, 500)
        given = list(answers)
        other = Meaning(self.program, lambda request: given.pop(0) if given else None, 500)
        self.assertEqual((other.run(self.name, self.values), other.requests), (outcome, requests))
        plain, tiered = self.machines(answers, rng)
        self.assertEqual(tiered.saved(), plain.saved())
        if ("tired",) not in (outcome, plain.outcome() or ("tired",)):
            self.assertEqual((plain.outcome(), tiered.outcome()), (outcome, outcome))
            self.assertEqual(resumed(self.codes, tiered.saved()).outcome(), outcome)
        for request in requests:
            self.assertTrue(allows_request(self.known, request))
        if outcome[0] == "failed":
            self.assertTrue(allows_failure(self.known, outcome[1]))
        return outcome


class TestAnswers(Case):
    def answers_to(self, request):
        """All answers that are tried, failures too."""
        word = request[0]
        ints = [("ok", ("int", n)) for n in (0, 1, -7)]
        rows = {"int": ints, "text": [("ok", ("text", "x")), ("ok", ("text", ""))]}
        told = {"timer": [("ok", ("nothing",))], "now": ints[1:2], "flow": ints[:2],
                "random": [("ok", ("int", n)) for n in range(request[1])] if word == "random" else []}
        return (told[word] if word in told else rows[request[-1]]) + [("failed", 5), ("failed", 404)]

    def test_every_answer_and_failure(self):
        seen = {}
        for program in PROGRAMS:
            for n in (0, 1, 3):
                self.begin(program, "main", [("int", n)])
                waiting, many = [[]], 0
                while waiting and many < 150:
                    answers = waiting.pop(0)
                    outcome = self.check(answers, random.Random(many))
                    seen[outcome[0]] = seen.get(outcome[0], 0) + 1
                    many += 1
                    if outcome[0] == "waits" and len(answers) < 6:
                        waiting += [[*answers, answer] for answer in self.answers_to(outcome[1])]
        self.assertGreater(min(seen["done"], seen["failed"], seen["waits"]), 30, seen)


class TestPrograms(Case):
    def test_random_programs(self):
        seen = {}
        for seed in range(500):
            rng = random.Random(seed)
            program = Maker(rng).program()
            # What is written is the same program.
            program = read_program(show_program(program))
            _, name, params, _, _ = rng.choice(program)
            self.begin(program, name, [random_value(rng, kind, True) for _, kind in params])
            answer, answers = answers_of(seed, program, 7), []
            while True:
                outcome = self.check(answers, rng)
                seen[outcome[0]] = seen.get(outcome[0], 0) + 1
                given = answer(outcome[1]) if outcome[0] == "waits" else None
                if given is None:
                    break
                answers.append(given)
        self.assertGreater(min(seen.values()), 10, seen)


class TestEngineAndVault(unittest.TestCase):
    def test_an_engine_whose_events_are_kept_in_a_vault(self):
        """The state of a vault is that of the engine whose events were written to it, shortened now and then."""
        for seed in range(40):
            rng = random.Random(seed)
            program = PROGRAMS[seed % len(PROGRAMS)] if seed % 2 else Maker(rng).program()
            vault = Vault()

            class Written(Journal):
                def append(self, data):
                    Journal.append(self, data)
                    vault.append(data)

            engine, is_begun = Engine(program, Written()), False
            for _ in range(40):
                way = rng.random()
                if way < 0.2:
                    _, name, params, _, _ = rng.choice(program)
                    engine.begin(name, [random_value(rng, kind, True) for _, kind in params])
                elif way < 0.4:
                    engine.tick(rng.choice([1, 2, 10]))
                elif way < 0.5 and engine.state.flows:
                    engine.signal(rng.choice(sorted(engine.state.flows)), "go", random_value(rng, rng.choice(KINDS), True))
                elif way < 0.6:
                    vault.begin_shortening(engine.state)
                    is_begun = True
                elif way < 0.7 and is_begun:
                    vault.end_shortening()
                    is_begun = False
                else:
                    for task in engine.turn():
                        flow = engine.state.flows[task[0]]
                        kind = outcome_of(program, flow)[1][3]
                        engine.bring(task, ("ok", random_value(rng, kind, True)))
            vault.sync()
            vault.fall(0, 0)
            self.assertEqual(told_of(vault.recover()), told_of(engine.state))


if __name__ == "__main__":
    unittest.main()

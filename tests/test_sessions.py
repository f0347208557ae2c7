"""Sessions [260] and [261]."""

import unittest

from openrules.arguments import argument_depth, step_count
from openrules.errors import EntryRefused, NoOpenGoal, NothingToUndo, ScriptFull, TacticFailed, TooLarge
from openrules.goals import case_goal, initial_goal
from openrules.kernel import check_argument
from openrules.sessions import Session
from openrules.tactics import run_tactic
from samples import FINISH, FIRST, GOAL, LATER, NAT_Z, NATURALS, RIGHT, SCOPE, Z, broad

P, Q = ("p",), ("q",)
DONE = (("done", 0, ()), ())
SKIP = ("then", ())
STEP = ("step", ("done", 0, ()))
ALWAYS = ("always", (1, (("p", 0),), ((("p", 0),),)), ())
BOTH = ("both", (0, (), ((P,), (P,), (P,))), ())
EMPTY = ("empty", (0, (), ()), ())
TWO = ("two", (0, (), ((P,), (P,))), ())
WIDE = ((("a", (), P), ("b", (), Q)), tuple((False, (claim,)) for claim in (ALWAYS, BOTH, EMPTY, TWO)))


class SessionsTest(unittest.TestCase):

    def refused(self, error, attributes, function, *arguments, **more):
        with self.assertRaises(error) as caught:
            function(*arguments, **more)
        self.assertIs(type(caught.exception), error)
        self.assertEqual(vars(caught.exception), attributes)

    def unchanged(self, session, error, attributes, function, *arguments):
        """Whether the call raises this error and changes nothing."""
        before = (session.goals, session.script, session.argument)
        self.refused(error, attributes, function, *arguments)
        self.assertEqual((session.goals, session.script, session.argument), before)

    def runs(self, session, *tactics):
        """Run the tactics, and undo and run each of them once more."""
        for tactic in tactics:
            before = (session.goals, session.script, session.argument)
            count = session.run(tactic)
            self.assertEqual(count, len(session.goals))
            after = (session.goals, session.script, session.argument)
            self.assertEqual(after[1], before[1] + (tactic,))
            self.assertEqual(session.undo(), len(before[0]))
            self.assertEqual((session.goals, session.script, session.argument), before)
            self.assertEqual(session.run(tactic), count)
            self.assertEqual((session.goals, session.script, session.argument), after)


class ExamplesTest(SessionsTest):

    def test_examples(self):
        session = Session(SCOPE, "addZero", rule="natS")
        self.assertEqual(session.run(("apply", "addZero", None, ())), 1)
        self.assertEqual(session.run(("auto", 1)), 0)
        self.assertEqual(session.argument, LATER)
        self.assertEqual(session.undo(), 1)
        self.assertEqual(len(session.script), 1)


class NewTest(SessionsTest):

    def test_a_case(self):
        session = Session(SCOPE, "addZero", rule="natS")
        self.assertEqual((session.goals, session.script, session.argument), ((GOAL,), (), None))
        session = Session(SCOPE, "addZero", rule="natZ")
        self.assertEqual(session.goals, (case_goal(RIGHT, NAT_Z),))

    def test_a_theorem(self):
        session = Session(WIDE, "always")
        self.assertEqual((session.goals, session.script, session.argument), ((initial_goal(ALWAYS),), (), None))
        self.assertEqual(Session(WIDE, "always", rule=None).goals, session.goals)

    def test_refl(self):
        claim = ("equal", (1, (("=", 0, Z),), ((("=", Z, 0),),)), (0,))
        session = Session(((), ((True, (claim,)),)), "equal", rule="refl")
        self.assertEqual(session.goals, (((Z,), ((("=", Z, Z), (0, False)),)),))

    def test_refused(self):
        large = ("large", (1, (("p", 0), ("q", 0, 0)), ((("p", 0),),)), (0,))
        rules = NATURALS + (("big", (), ("p", broad(30))),)
        scope = (rules, ((True, (RIGHT,)), (False, (ALWAYS,)), (True, (large,))))
        for claim, rule, reason in (("none", None, "claim"), ("none", "none", "claim"), ("natZ", "natZ", "claim"),
                                    ("addZero", None, "open"), ("always", "natZ", "open"), ("always", "none", "open"),
                                    ("always", "refl", "open"), ("addZero", "none", "rule"),
                                    ("addZero", "addZero", "rule"), ("large", "none", "rule"),
                                    ("addZero", "addZ", "case"), ("addZero", "refl", "case"), ("large", "natZ", "case"),
                                    ("large", "big", "limits")):
            self.refused(EntryRefused, {"place": 0, "reason": reason}, Session, scope, claim, rule=rule)

    def test_the_rule_is_passed_by_keyword(self):
        with self.assertRaises(TypeError):
            Session(SCOPE, "addZero", "natS")


class RunTest(SessionsTest):

    def test_the_first_open_goal_is_replaced(self):
        session = Session(WIDE, "both")
        rule, split = ("step", ("rule", "b", (), ())), ("step", ("apply", "two", (), ()))
        self.assertEqual(session.run(split), 2)
        first, second = session.goals
        self.assertEqual(session.run(split), 3)
        self.assertEqual(session.goals[2], second)
        self.assertEqual(session.run(rule), 3)
        self.assertEqual(session.goals[0][1][-1], (Q, None))
        self.assertEqual(session.goals[2], second)
        step = split[1]
        self.assertEqual(session.argument, (step, (
            ("", (step, (("", (rule[1], (("", None),))), ("", None)))), ("", None))))
        self.assertEqual([session.run(STEP) for _ in range(3)], [2, 1, 0])
        self.assertEqual(session.argument, (step, (
            ("", (step, (("", (rule[1], FINISH)), ("", DONE)))), ("", DONE))))
        self.assertEqual(session.script, (split, split, rule, STEP, STEP, STEP))
        self.assertEqual(first[1], ((P, None),))

    def test_each_kind_of_tactic_and_undoing_it(self):
        session = Session(SCOPE, "addZero", rule="natS")
        self.runs(session, SKIP, ("repeat", ("else", ())), ("else", (("else", ()), SKIP)),
                  ("apply", "addZero", None, ()), ("repeat", ("step", ("invert", 1))), ("auto", 1))
        session = Session(SCOPE, "addZero", rule="natS")
        self.runs(session, ("step", ("invert", 1)), ("apply", "natZ", None, ()), SKIP,
                  ("then", (("apply", "addZero", None, ()), ("auto", 1))), ("else", (("auto", 0), ("auto", 2))))
        self.assertEqual(session.goals, ())
        self.assertIsNone(check_argument(SCOPE, "addZero", GOAL, session.argument))
        for count in range(4, -1, -1):
            session.undo()
            self.assertEqual(len(session.script), count)
        self.assertEqual((session.goals, session.script, session.argument), ((GOAL,), (), None))
        self.unchanged(session, NothingToUndo, {}, session.undo)

    def test_tactics_that_make_no_step(self):
        session = Session(SCOPE, "addZero", rule="natZ")
        for count in range(5):
            self.assertEqual((session.run(SKIP), session.argument, len(session.script)), (1, None, count + 1))
        self.assertEqual(session.run(("auto", 1)), 0)
        self.assertEqual(session.argument, FIRST)
        self.assertEqual([session.undo() for _ in range(6)], 6 * [1])

    def test_after_the_end(self):
        session = Session(SCOPE, "addZero", rule="natZ")
        session.run(("auto", 1))
        self.unchanged(session, NoOpenGoal, {}, session.run, SKIP)
        self.unchanged(session, NoOpenGoal, {}, session.run, ("else", ()))
        self.assertEqual(session.undo(), 1)
        self.assertEqual(session.run(("auto", 2)), 0)

    def test_a_tactic_that_fails(self):
        session = Session(SCOPE, "addZero", rule="natS")
        for _ in range(2):
            self.unchanged(session, TacticFailed, {"reason": "search"}, session.run, ("auto", 1))
            self.unchanged(session, TacticFailed, {"reason": "none"}, session.run, ("else", ()))
            self.unchanged(session, TacticFailed, {"reason": "work"}, session.run,
                           ("repeat", ("repeat", ("repeat", SKIP))))
            session.run(SKIP)

    def test_the_results_are_those_of_run_tactic(self):
        session = Session(SCOPE, "addZero", rule="natS")
        tactic = ("step", ("invert", 1))
        argument, goals = run_tactic(SCOPE, "addZero", GOAL, tactic)
        self.assertEqual(session.run(tactic), 2)
        self.assertEqual((session.argument, session.goals), (argument, goals))

    def test_a_theorem_that_is_finished_by_an_inversion(self):
        claim = ("never", (0, (("x",),), ()), ())
        session = Session(((), ((False, (claim,)),)), "never")
        self.assertEqual(session.run(("step", ("invert", 0))), 0)
        self.assertEqual(session.argument, (("invert", 0), ()))


class TwoTest(SessionsTest):

    def test_two_sessions_do_not_touch_each_other(self):
        one, other = Session(SCOPE, "addZero", rule="natS"), Session(SCOPE, "addZero", rule="natS")
        one.run(("apply", "addZero", None, ()))
        self.assertEqual((other.goals, other.script, other.argument), ((GOAL,), (), None))
        self.assertEqual(other.run(("step", ("invert", 1))), 2)
        self.assertEqual((len(one.goals), len(one.script)), (1, 1))
        one.run(("auto", 1))
        self.assertEqual(one.argument, LATER)
        other.undo()
        self.assertEqual((one.argument, len(one.script), other.argument, other.script), (LATER, 2, None, ()))


class BoundsTest(SessionsTest):

    def test_the_script(self):
        session = Session(WIDE, "both")
        for count in range(40):
            self.assertEqual((session.run(SKIP), len(session.script)), (1, count + 1))
        self.unchanged(session, ScriptFull, {}, session.run, SKIP)
        self.unchanged(session, ScriptFull, {}, session.run, ("else", ()))
        self.assertEqual(session.undo(), 1)
        session.run(("auto", 1))
        self.assertEqual((session.goals, len(session.script)), ((), 40))
        self.unchanged(session, ScriptFull, {}, session.run, SKIP)
        session.undo()
        session.undo()
        session.run(("auto", 1))
        self.unchanged(session, NoOpenGoal, {}, session.run, SKIP)

    invert = ("step", ("invert", 0))

    def deep(self):
        """A session whose goal can be inverted again and again without more hypotheses."""
        return Session(((("a", (), P),), ((False, (("t", (0, (P,), ((P,),)), ()),)),)), "t")

    def test_the_depth(self):
        session = self.deep()
        for _ in range(29):
            session.run(self.invert)
        self.assertEqual(session.run(STEP), 0)
        self.assertEqual(argument_depth(session.argument), 30)
        session.undo()
        self.assertEqual(session.run(self.invert), 1)
        self.unchanged(session, TooLarge, {}, session.run, STEP)
        self.unchanged(session, TooLarge, {}, session.run, self.invert)
        self.unchanged(session, TacticFailed, {"reason": "disjunct"}, session.run, ("step", ("done", 1, ())))
        self.assertEqual(session.run(SKIP), 1)
        session.undo()
        session.undo()
        self.assertEqual(session.run(("then", (SKIP, STEP))), 0)

    def test_the_depth_of_one_tactic(self):
        session = self.deep()
        self.assertEqual(session.run(("then", 3 * (("repeat", self.invert),))), 1)
        session.undo()
        self.unchanged(session, TooLarge, {}, session.run, ("then", 4 * (("repeat", self.invert),)))
        self.unchanged(session, TooLarge, {}, session.run, ("then", 3 * (("repeat", self.invert),) + (STEP,)))
        self.unchanged(session, TacticFailed, {"reason": "work"}, session.run, ("then", 7 * (("repeat", self.invert),)))

    def test_the_number_of_steps(self):
        session = Session(WIDE, "always")
        split, row = ("step", ("apply", "both", (), ())), ("step", ("rule", "a", (), ()))
        self.assertEqual(session.run(("then", 4 * (split,))), 81)
        for count in (80, 79):
            self.assertEqual(session.run(("then", 20 * (row,) + (STEP,))), count)
        self.unchanged(session, TooLarge, {}, session.run, ("then", 18 * (row,) + (STEP,)))
        self.unchanged(session, TooLarge, {}, session.run, ("then", 2 * (split,) + (row,) + (STEP,)))
        self.assertEqual(session.run(("then", 17 * (row,) + (STEP,))), 78)
        for tactic in (STEP, row, split, ("auto", 0)):
            self.unchanged(session, TooLarge, {}, session.run, tactic)
        self.unchanged(session, TacticFailed, {"reason": "disjunct"}, session.run, ("step", ("done", 1, ())))
        self.assertEqual(session.run(SKIP), 78)
        session.undo()
        session.undo()
        self.assertEqual(session.run(STEP), 78)

    def test_a_hundred_steps_are_a_proof(self):
        claims = (("two", (0, (P,), ((P,), (P,))), ()), ("t", (0, (P,), ((P,),)), ()))
        scope = ((("a", (), P),), tuple((False, (claim,)) for claim in claims))
        split, row = ("step", ("apply", "two", (), (0,))), ("step", ("rule", "a", (), ()))
        session = Session(scope, "t")
        self.assertEqual(session.run(("then", 4 * (split,))), 16)
        for count in range(15, 1, -1):
            self.assertEqual(session.run(("then", 4 * (row,) + (STEP,))), count)
        self.assertEqual(session.run(("then", 8 * (row,) + (STEP,))), 1)
        self.unchanged(session, TooLarge, {}, session.run, ("then", 6 * (row,) + (STEP,)))
        self.assertEqual(session.run(("then", 5 * (row,) + (STEP,))), 0)
        self.assertEqual(step_count(session.argument), 100)
        self.assertIsNone(check_argument(scope, "t", initial_goal(claims[1]), session.argument))


if __name__ == "__main__":
    unittest.main()

"""[0.2] (b) and (c), [0.3], [8.1], [8.2], [8.3]: the results that scripts can have."""

import random
import time
import unittest

from helpers import RESULTS, random_tree, right_tree, unchanged, wrong_values
from plain import plain_run
from scripttrees.errors import InvalidFacts, InvalidOutcome, InvalidScript
from scripttrees.judging import is_enough, judgement, outcomes, outcomes_under, tree_with
from test_facts import random_facts, true_fact
from worlds import (FULL_POOLS, paths_of_facts, paths_of_script, places_of, random_script, rich_trees, right_facts, right_judged,
                    size)

LONG = (("move", "a", "b"), ("move", "c", "d"), ("move", "e", "f"), ("move", "f", "a"))
SCRIPTS = [(), (("folder", "a"),), (("remove", "a"), ("drop", "b")), (("move", "a", "b/c"), ("write", "a", "x")), LONG]
WAY = [(0, "missing"), (0, "not folder")]


class Outcomes(unittest.TestCase):
    def check(self, script, found):
        self.assertEqual(unchanged(self, outcomes, script), sorted(found), script)

    def test_examples(self):
        self.check((("remove", "a"),), [(0, "is folder"), (0, "missing"), (1, "ok")])
        self.assertEqual(judgement((("folder", "a"), ("file", "a"))), "never")
        self.assertIs(is_enough((("file", "a/b"),), (("a", "empty"),)), True)

    def test_each_kind_of_call(self):
        self.check((), [(0, "ok")])
        for kind in ("folder", "file"):
            self.check(((kind, "a"),), [(0, "exists"), (1, "ok")])
            self.check(((kind, "a/b"),), WAY + [(0, "exists"), (1, "ok")])
            self.check(((kind, "a/b/c"),), WAY + [(0, "exists"), (1, "ok")])
        for kind in ("write", "append"):
            self.check(((kind, "a", "x"),), [(0, "is folder"), (0, "missing"), (1, "ok")])
            self.check(((kind, "a/b", "x"),), WAY + [(0, "is folder"), (1, "ok")])
        for kind in ("copy", "link"):
            self.check(((kind, "a", "b"),), [(0, "exists"), (0, "is folder"), (0, "missing"), (1, "ok")])
            self.check(((kind, "a", "a"),), [(0, "exists"), (0, "is folder"), (0, "missing")])
            self.check(((kind, "a", "a/b"),), WAY + [(0, "is folder")])
        self.check((("drop", "a"),), WAY + [(0, "not empty"), (1, "ok")])
        self.check((("move", "a", "b"),), WAY + [(0, "is folder"), (0, "not empty"), (1, "ok")])
        self.check((("move", "a", "a"),), [(0, "missing"), (1, "ok")])
        self.check((("move", "a", "a/b"),), WAY + [(0, "inside")])
        self.check((("move", "a/b", "a"),), WAY + [(0, "is folder"), (0, "not empty")])
        self.check((("move", "a/b", "b"),), WAY + [(0, "is folder"), (0, "not empty"), (1, "ok")])

    def test_entries_of_earlier_calls(self):
        made = [(0, "exists")]
        self.check((("folder", "a"), ("folder", "a")), made + [(1, "exists")])
        self.check((("folder", "a"), ("drop", "a")), made + [(2, "ok")])
        self.check((("folder", "a"), ("write", "a", "x")), made + [(1, "is folder")])
        self.check((("file", "a"), ("drop", "a")), made + [(1, "not folder")])
        self.check((("file", "a"), ("remove", "a"), ("remove", "a")), made + [(2, "missing")])
        self.check((("folder", "a"), ("file", "a/b"), ("drop", "a")), made + [(2, "not empty")])
        self.check((("folder", "a"), ("move", "a", "a/b")), made + [(1, "inside")])
        removed = [(0, "is folder"), (0, "missing")]
        self.check((("remove", "a"), ("write", "a", "x")), removed + [(1, "missing")])
        self.check((("remove", "a"), ("folder", "a"), ("drop", "a")), removed + [(3, "ok")])
        moved = WAY + [(0, "is folder"), (0, "not empty")]
        self.check((("move", "a", "b"), ("folder", "b")), moved + [(1, "exists")])
        # The first path stays where both lead to the same file.
        self.check((("move", "a", "b"), ("folder", "a")), moved + [(1, "exists"), (2, "ok")])
        self.check((("move", "a", "b"), ("drop", "b")), moved + [(1, "not empty"), (1, "not folder"), (2, "ok")])
        self.check((("move", "a", "b"), ("file", "b/c")), moved + [(1, "exists"), (1, "not folder"), (2, "ok")])
        self.check((("link", "a", "b"), ("move", "a", "b"), ("file", "a")),
                   [(0, "exists"), (0, "is folder"), (0, "missing"), (2, "exists")])
        self.check((("copy", "a", "b"), ("move", "a", "b"), ("file", "a")),
                   [(0, "exists"), (0, "is folder"), (0, "missing"), (3, "ok")])
        self.check((("drop", "a"), ("file", "a/b")), WAY + [(0, "not empty"), (1, "missing")])

    def test_judgements(self):
        for script, answer in (((), "always"), ((("folder", "a"), ("file", "a")), "never"),
                               ((("move", "a", "a/b"),), "never"), ((("folder", "a"),), "sometimes"),
                               ((("move", "a", "a"),), "sometimes"), ((("copy", "a", "a"),), "never"),
                               ((("folder", "a"), ("write", "a/b", "x")), "never"), (LONG, "sometimes")):
            self.assertEqual(unchanged(self, judgement, script), answer, script)


class Trees(unittest.TestCase):
    def check(self, script, outcome, least):
        """See that tree_with returns a tree of least paths, or None."""
        tree = unchanged(self, tree_with, script, outcome)
        if least is None:
            self.assertIsNone(tree, (script, outcome))
            return
        self.assertTrue(right_tree(tree), (script, outcome))
        self.assertEqual(plain_run(tree, script)[:2], outcome)
        self.assertEqual(size(tree), least, (script, outcome, tree))

    def test_named_edges(self):
        self.check((), (0, "ok"), 0)
        self.check((), (0, "missing"), None)
        self.check((), (1, "ok"), None)
        script = (("folder", "a"),)
        self.check(script, (1, "ok"), 0)
        self.check(script, (0, "exists"), 1)
        for outcome in ((0, "ok"), (1, "exists"), (0, "inside"), (6, "ok"), (6, "missing"), (2, "ok")):
            self.check(script, outcome, None)

    def test_least_trees(self):
        self.check((("drop", "a"),), (0, "not empty"), 2)
        self.check((("drop", "a/b/c"),), (0, "not empty"), 4)
        self.check((("drop", "a/b/c"),), (0, "missing"), 0)
        self.check((("drop", "a/b/c"),), (0, "not folder"), 1)
        self.check((("move", "a", "b"),), (0, "not empty"), 3)
        self.check((("move", "a", "b"), ("file", "a")), (1, "exists"), 2)
        self.check((("remove", "a/b"), ("drop", "a")), (1, "not empty"), 3)
        self.check((("remove", "a/b"), ("drop", "a")), (2, "ok"), 2)
        self.check((("move", "a", "b"), ("file", "b/c")), (1, "exists"), 2)
        self.check((("drop", "a"), ("file", "a/b"),), (0, "not empty"), 2)
        self.check(LONG, (4, "ok"), 3)


class Under(unittest.TestCase):
    def check(self, script, facts, found):
        self.assertEqual(unchanged(self, outcomes_under, script, facts), sorted(found), (script, facts))
        enough = all(result == "ok" for _, result in found)
        self.assertIs(unchanged(self, is_enough, script, facts), enough, (script, facts))

    def test_named_edges(self):
        move = (("move", "a", "b"),)
        self.check(move, (("a", "file"), ("b", "file")), [(1, "ok")])
        self.check(move, (("a", "empty"), ("a", "folder"), ("b", "none")), [(1, "ok")])
        self.check(move, (("a", "folder"), ("b", "empty")), [(1, "ok")])
        self.check(move, (("a", "folder"), ("b", "folder")), [(0, "not empty"), (1, "ok")])
        self.check(move + (("file", "a"),), (("a", "same", "b"),), [(1, "exists")])
        self.check(move + (("file", "a"),), (("a", "apart", "b"),), [(2, "ok")])
        self.check(move + (("file", "a"),), (("a", "file"), ("b", "file")), [(1, "exists"), (2, "ok")])
        self.check(move + (("file", "a"),), (("a", "same", "c"), ("b", "same", "c")), [(1, "exists")])
        self.check((("drop", "a"),), (("a/b", "none"), ("a/c", "file")), [(0, "not empty")])
        self.check((("remove", "a/b"), ("drop", "a")), (("a", "folder"), ("a/b", "file"), ("a/c", "folder")),
                   [(1, "not empty")])
        self.check((), (("a", "file"),), [(0, "ok")])
        self.check((("drop", "a"),), (("a", "empty"), ("a", "folder")), [(1, "ok")])
        self.check((("drop", "a"),), (("a", "folder"),), [(0, "not empty"), (1, "ok")])

    def test_facts_that_contradict(self):
        for facts in ((("a", "file"), ("a", "none")), (("a", "empty"), ("a/b", "file")), (("a", "apart", "a"),),
                      (("a", "apart", "b"), ("a", "same", "b"))):
            self.check((("folder", "a"),), facts, [])
            self.check((("folder", "a"), ("file", "a")), facts, [])
            self.check((), facts, [])


class AllTrees(unittest.TestCase):
    """What is said of all trees is what all small trees show."""

    def test_outcomes(self):
        dice = random.Random(81)
        for turn in range(100):
            pool, places = FULL_POOLS[turn % len(FULL_POOLS)]
            script = random_script(dice, pool, 4, "xy")
            shown = {}
            for tree in rich_trees(places):
                outcome = plain_run(tree, script)[:2]
                shown[outcome] = min(shown.get(outcome, 1000), size(tree))
            self.assertEqual(outcomes(script), sorted(shown), script)
            for result in RESULTS:
                for done in range(5):
                    outcome = (done, result)
                    tree = tree_with(script, outcome)
                    if outcome not in shown:
                        self.assertIsNone(tree, (script, outcome))
                    else:
                        self.assertEqual(plain_run(tree, script)[:2], outcome)
                        self.assertEqual(size(tree), shown[outcome], (script, outcome, tree))

    def test_outcomes_under_facts(self):
        dice = random.Random(82)
        many = 0
        for turn in range(160):
            pool, places = FULL_POOLS[turn % len(FULL_POOLS)]
            script = random_script(dice, pool, 4, "xy")
            facts = random_facts(dice, pool, 3)
            trees = [tree for tree in rich_trees(places) if all(true_fact(tree, fact) for fact in facts)]
            shown = {plain_run(tree, script)[:2] for tree in trees}
            self.assertEqual(outcomes_under(script, facts), sorted(shown), (script, facts))
            self.assertIs(is_enough(script, facts), shown <= {(len(script), "ok")}, (script, facts))
            many += len(shown) > 1
        self.assertGreater(many, 20)

    def test_large_trees(self):
        """No tree has an outcome that was not told, whatever names are in it."""
        dice = random.Random(83)
        pool = ("a", "b", "a/c", "b/c", "a/c/b", "c")
        for _ in range(120):
            script = random_script(dice, pool, 4, "xy")
            facts = random_facts(dice, ("a", "b", "a/c"), 2)
            if not right_judged(script) or len(places_of(paths_of_script(script) + paths_of_facts(facts))) > 6:
                continue
            found, under = outcomes(script), outcomes_under(script, facts)
            for _ in range(40):
                tree = random_tree(dice, ("a", "b", "c"), dice.choice((5, 10, 25)), 5, ("q", "z"))
                outcome = plain_run(tree, script)[:2]
                self.assertIn(outcome, found, (tree, script))
                if all(true_fact(tree, fact) for fact in facts):
                    self.assertIn(outcome, under, (tree, script, facts))

    def test_longest_scripts(self):
        dice = random.Random(84)
        for pool in (("a", "b", "c", "d", "e", "f"), ("a", "b", "a/b", "a/c", "b/b", "b/c")):
            for _ in range(6):
                script = tuple(("move", dice.choice(pool), dice.choice(pool)) for _ in range(4))
                start = time.perf_counter()
                found = outcomes(script)
                for outcome in found:
                    self.assertEqual(plain_run(tree_with(script, outcome), script)[:2], outcome)
                self.assertLess(time.perf_counter() - start, 5)


class WrongArguments(unittest.TestCase):
    def check_wrong(self, script):
        for call in ((outcomes, script), (judgement, script), (tree_with, script, (0, "ok")), (tree_with, script, None),
                     (outcomes_under, script, ()), (outcomes_under, script, None), (is_enough, script, ()),
                     (is_enough, script, [])):
            with self.assertRaises(InvalidScript, msg=repr(script)[:100]):
                call[0](*call[1:])

    def test_bounds(self):
        self.assertEqual(judgement((("append", "a", "x"),) * 4), "sometimes")
        self.check_wrong((("append", "a", "x"),) * 5)
        self.check_wrong((("append", "a", "x"),) * 6)
        six = (("file", "a/b/c"), ("file", "d/e/f"))
        self.assertEqual(judgement(six), "sometimes")
        self.check_wrong(six + (("file", "g"),))
        self.assertEqual(judgement(tuple(("move", one, other) for one, other in ("ab", "cd", "ef"))), "sometimes")
        self.check_wrong(tuple(("move", one, other) for one, other in ("ab", "cd", "ef", "ga")))

    def test_wrong_scripts(self):
        for value in wrong_values(SCRIPTS, 85, 250):
            if right_judged(value):
                self.assertIsInstance(outcomes(value), list)
            else:
                self.check_wrong(value)

    def test_wrong_outcomes(self):
        script = (("folder", "a"),)
        for outcome in ((-1, "ok"), (7, "ok"), (True, "ok"), (False, "ok"), (0, "denied"), (0, "full"), (0, ""), (0, "Ok"),
                        [0, "ok"], ("ok", 0), (0,), (0, "ok", 0), (None, "ok"), (0, ["ok"]), (0, None), None, "ok", 0,
                        (0, ("ok",)), (10 ** 3000, "ok")):
            with self.assertRaises(InvalidOutcome, msg=repr(outcome)[:80]):
                tree_with(script, outcome)
        for done in range(7):
            for result in RESULTS:
                tree_with(script, (done, result))
        for value in wrong_values([(0, "ok"), (6, "not folder"), (1, "missing")], 86, 400):
            if type(value) is tuple and len(value) == 2 and type(value[0]) is int and value[1] in RESULTS:
                continue
            with self.assertRaises(InvalidOutcome, msg=repr(value)[:80]):
                tree_with(script, value)

    def test_wrong_facts(self):
        script = (("move", "a", "b/c"),)
        facts = [(), (("a", "file"), ("a", "same", "b")), (("a", "folder"), ("a/b", "empty"))]
        for value in wrong_values(facts, 87, 400):
            if right_facts(value) and len(places_of(paths_of_facts(value) + paths_of_script(script))) <= 6:
                self.assertIsInstance(outcomes_under(script, value), list)
                continue
            for function in (outcomes_under, is_enough):
                with self.assertRaises(InvalidFacts, msg=repr(value)[:80]):
                    function(script, value)

    def test_too_many_places_together(self):
        script = (("move", "a/b", "c/d"),)
        self.assertEqual(outcomes_under(script, (("a/e", "none"), ("c/f", "none"))), outcomes(script))
        for facts in ((("a/e", "none"), ("c/f", "none"), ("g", "none")), (("e/f/g", "none"),),
                      (("e", "same", "f"), ("g", "file"))):
            self.assertTrue(right_facts(facts))
            for function in (outcomes_under, is_enough):
                with self.assertRaises(InvalidFacts):
                    function(script, facts)
        self.assertIs(is_enough((), (("a/b/c", "file"), ("d/e/f", "file"))), True)

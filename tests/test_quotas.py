"""[0.3], [24.1], [24.2], [24.3]: quotas."""

import random
import unittest

from helpers import random_call, right_call, unchanged, wrong_values
from plaintables import plain_act, random_script, right_table, right_user, some_tables
from scripttrees.acting import act, act_all
from scripttrees.errors import InvalidCall, InvalidLimits, InvalidScript, InvalidTable, InvalidUser
from scripttrees.quotas import act_within, are_limits, least_limits, over, used
from scripttrees.tables import table_of
from worlds import right_script

BASE = table_of((("b",), ((("a",), ("x", "y")),)), "c")
PATHS = ("a", "b", "c", "a/b", "b/a", "c/d", "d")


def right_limits(candidate):
    if type(candidate) is not tuple or not all(type(row) is tuple and len(row) == 3 for row in candidate):
        return False
    for user, nodes, blocks in candidate:
        if not right_user(user) or type(nodes) is not int or type(blocks) is not int:
            return False
        if nodes not in range(17) or blocks not in range(65):
            return False
    users = [row[0] for row in candidate]
    return users == sorted(set(users))


def plain_used(table, user):
    mine = [node for node in table if node[2] == user]
    return len(mine), sum(-(-len(node[4]) // 4) for node in mine)


def plain_within(table, limits, user, call):
    result, after, _ = plain_act(table, user, call)
    for who, *most in limits:
        for one, before, limit in zip(plain_used(after, who), plain_used(table, who), most):
            if one > limit and one > before:
                return "quota", table
    return result, after


def plain_run(table, limits, user, script):
    for done, call in enumerate(script):
        result, table = plain_within(table, limits, user, call)
        if result != "ok":
            return done, result, table
    return len(script), "ok", table


def nodes_of(*rows):
    """Return a table with an empty file of each of some users and lengths, in a root folder of the user d."""
    entries = tuple(("abcdefghijklmno"[at], at + 1) for at in range(len(rows)))
    return ((0, "folder", "d", "rwrw", entries),) + tuple(
        (at + 1, "file", user, "rwrw", ("x",) * length) for at, (user, length) in enumerate(rows))


class AreLimits(unittest.TestCase):
    def test_what_they_are(self):
        for candidate in ((), (("a", 0, 0),), (("a", 16, 64),), (("a", 1, 2), ("b", 0, 0), ("c", 16, 0), ("d", 3, 64)),
                          (("a", 1, 2), ("d", 1, 2))):
            self.assertIs(unchanged(self, are_limits, candidate), True, candidate)
        for candidate in ([], None, 0, "", (("a", 17, 0),), (("a", 0, 65),), (("a", -1, 0),), (("a", 0, -1),), (("a", 17, 65),),
                          (("a", True, 0),), (("a", 0, False),), (("a", "1", 0),), (("a", None, 0),), (("a", 0, (1,)),),
                          (("e", 1, 1),), (("", 1, 1),), ((None, 1, 1),), (("ab", 1, 1),), ((1, 1, 1),), (("a", 1),), (("a", 1, 1, 1),),
                          (["a", 1, 1],), [("a", 1, 1)], ("a", 1, 1), (("b", 1, 1), ("a", 1, 1)), (("a", 1, 1), ("a", 1, 1)),
                          (("a", 1, 1), ("a", 2, 2)), (("a", 2, 2), ("a", 1, 1)), (("a", 1, 1), None), (("a", 10 ** 3000, 1),)):
            self.assertIs(unchanged(self, are_limits, candidate), False, candidate)

    def test_any_values(self):
        right = 0
        for value in wrong_values([(("a", 1, 2), ("b", 0, 64)), (("c", 16, 3),), ()], 241, 4000):
            answer = right_limits(value)
            self.assertIs(are_limits(value), answer, repr(value)[:200])
            right += answer
        self.assertGreater(right, 50)


class Used(unittest.TestCase):
    def test_example(self):
        self.assertEqual(unchanged(self, used, BASE, "c"), (3, 2))
        self.assertEqual(used(BASE, "a"), (0, 0))

    def test_bodies(self):
        for length, blocks in ((0, 0), (1, 1), (4, 1), (5, 2), (8, 2), (9, 3), (16, 4)):
            self.assertEqual(used(nodes_of(("a", length)), "a"), (1, blocks))
            self.assertEqual(used(nodes_of(("a", length), ("a", 5), ("b", 1)), "a"), (2, blocks + 2))
        # The entries of folders count, too.
        self.assertEqual(used(nodes_of(*[("a", 0)] * 5), "d"), (1, 2))
        self.assertEqual(used(nodes_of(*[("d", 16)] * 15), "d"), (16, 64))
        self.assertEqual(used(nodes_of(*[("a", 16)] * 15), "a"), (15, 60))

    def test_any_tables(self):
        for table in some_tables(242, 200):
            for user in "abcd":
                self.assertEqual(used(table, user), plain_used(table, user))


class Over(unittest.TestCase):
    def check(self, table, limits, rows):
        self.assertEqual(unchanged(self, over, table, limits), rows)

    def test_limits(self):
        table = nodes_of(("a", 5), ("a", 1), ("b", 16))
        self.check(table, (), [])
        self.check(table, (("a", 2, 3), ("b", 1, 4), ("c", 0, 0), ("d", 1, 1)), [])
        self.check(table, (("a", 1, 3), ("b", 1, 4)), [("a", "nodes")])
        self.check(table, (("a", 2, 2), ("b", 1, 3)), [("a", "blocks"), ("b", "blocks")])
        self.check(table, (("a", 0, 0), ("b", 0, 0), ("c", 0, 0), ("d", 0, 0)),
                   [("a", "blocks"), ("a", "nodes"), ("b", "blocks"), ("b", "nodes"), ("d", "blocks"), ("d", "nodes")])
        # Users without limits have none.
        self.check(table, (("b", 0, 0),), [("b", "blocks"), ("b", "nodes")])

    def test_any_tables(self):
        dice = random.Random(243)
        for table in some_tables(244, 300):
            limits = tuple((user, dice.randrange(4), dice.randrange(4)) for user in "abcd" if dice.random() < 0.7)
            rows = []
            for user, nodes, blocks in limits:
                if plain_used(table, user)[1] > blocks:
                    rows.append((user, "blocks"))
                if plain_used(table, user)[0] > nodes:
                    rows.append((user, "nodes"))
            self.check(table, limits, rows)


class ActWithin(unittest.TestCase):
    def check(self, table, limits, user, call, result):
        """See that a call has a result; what it does is what it does without limits."""
        found = unchanged(self, act_within, table, limits, user, call)
        self.assertEqual(found[0], result)
        self.assertEqual(found, plain_within(table, limits, user, call))
        self.assertEqual(found, ("quota", table) if result == "quota" else act(table, user, call))

    def test_example(self):
        self.assertEqual(act_within(BASE, (("c", 3, 2),), "c", ("file", "f")), ("quota", BASE))

    def test_nodes(self):
        for kind in ("file", "folder"):
            self.check(BASE, (("c", 3, 2),), "c", (kind, "f"), "quota")
            self.check(BASE, (("c", 4, 2),), "c", (kind, "f"), "ok")
            self.check(BASE, (("c", 4, 2),), "c", (kind, "b/f"), "quota")
            self.check(BASE, (("c", 4, 3),), "c", (kind, "b/f"), "ok")
        self.check(BASE, (("c", 16, 2),), "c", ("copy", "a", "f"), "quota")
        self.check(BASE, (("c", 4, 3),), "c", ("copy", "a", "f"), "ok")
        self.check(BASE, (("c", 3, 2),), "c", ("link", "a", "f"), "ok")

    def test_blocks(self):
        table = nodes_of(("a", 4), ("b", 0))
        self.check(table, (("a", 1, 1),), "a", ("append", "a", "x"), "quota")
        self.check(table, (("a", 1, 2),), "a", ("append", "a", "x"), "ok")
        self.check(table, (("a", 1, 1),), "a", ("write", "a", "x"), "ok")
        self.check(table, (("b", 1, 0),), "b", ("append", "b", "x"), "quota")
        # The limits are those of the user whose node grows, not of the one who makes it grow.
        self.check(table, (("a", 1, 1),), "b", ("append", "a", "x"), "quota")
        self.check(table, (("b", 0, 0),), "b", ("append", "a", "x"), "ok")
        self.check(table, (("b", 0, 0),), "a", ("write", "b", "x"), "quota")

    def test_folders_of_others_grow(self):
        table = nodes_of(*[("a", 0)] * 4)
        self.check(table, (("d", 1, 1),), "b", ("file", "f"), "quota")
        self.check(table, (("d", 1, 2),), "b", ("file", "f"), "ok")
        self.check(table, (("d", 1, 1),), "b", ("link", "a", "f"), "quota")
        self.check(table, (("b", 0, 0),), "b", ("link", "a", "f"), "ok")
        self.check(table, (("b", 0, 0),), "b", ("file", "f"), "quota")

    def test_users_without_limits(self):
        self.check(BASE, (), "c", ("file", "f"), "ok")
        self.check(BASE, (("a", 0, 0), ("b", 0, 0), ("d", 0, 0)), "c", ("copy", "a", "b/f"), "ok")

    def test_who_is_over_a_limit_already(self):
        none = (("c", 0, 0),)
        for call in (("write", "a", "x"), ("remove", "a"), ("drop", "b"), ("move", "a", "f"), ("link", "a", "f"), ("append", "a", "x")):
            self.check(BASE, none, "c", call, "ok")
        for call in (("file", "f"), ("folder", "f"), ("copy", "a", "f"), ("move", "a", "b/f"), ("link", "a", "b/f")):
            self.check(BASE, none, "c", call, "quota")
        # Fewer nodes do not make up for more blocks.
        table = nodes_of(("a", 4), ("a", 0))
        self.check(table, (("a", 0, 0),), "a", ("move", "a", "b"), "ok")
        self.check(table, (("a", 16, 0),), "a", ("append", "b", "x"), "quota")

    def test_calls_that_fail(self):
        for call, result in ((("file", "a"), "exists"), (("file", "a/f"), "not folder"), (("copy", "f", "g"), "missing"),
                             (("copy", "b", "g"), "is folder")):
            self.check(BASE, (("c", 0, 0),), "c", call, result)
        closed = tuple(node[:3] + ("rwr-",) + node[4:] for node in BASE)
        self.check(closed, (("a", 0, 0), ("c", 0, 0)), "a", ("file", "f"), "denied")
        full = nodes_of(*[("a", 16)] * 15)
        self.check(full, (("a", 0, 0),), "a", ("append", "a", "x"), "full")
        self.check(full, (("a", 0, 0),), "a", ("file", "f"), "exists")
        self.check(full, (("a", 0, 0),), "a", ("file", "p"), "full")

    def test_any_calls(self):
        dice = random.Random(245)
        results = {}
        for table in some_tables(246, 400, rights=("rwrw", "rwrw", "rwr-")):
            limits = tuple((user, dice.randrange(5), dice.randrange(5)) for user in "abcd" if dice.random() < 0.6)
            for _ in range(6):
                user, call = dice.choice("abcd"), random_call(dice, PATHS)
                found = act_within(table, limits, user, call)
                self.assertEqual(found, plain_within(table, limits, user, call))
                results[found[0]] = results.get(found[0], 0) + 1
        self.assertGreater(min(results["quota"], results["ok"]), 30)


class LeastLimits(unittest.TestCase):
    def check(self, table, user, script, least):
        self.assertEqual(unchanged(self, least_limits, table, user, script), least)
        # By trying: the first nodes with which some blocks are enough, and with them the first blocks.
        wanted = plain_run(table, (), user, script)
        for nodes in range(17):
            if plain_run(table, ((user, nodes, 64),), user, script) == wanted:
                break
        for blocks in range(65):
            if plain_run(table, ((user, nodes, blocks),), user, script) == wanted:
                break
        self.assertEqual((nodes, blocks), least)
        self.assertEqual(act_all(table, user, script), wanted)

    def test_example(self):
        self.assertEqual(least_limits(BASE, "c", (("file", "f"),)), (4, 0))
        self.check(BASE, "c", (("file", "f"),), (4, 0))

    def test_neither(self):
        self.check(BASE, "c", (), (0, 0))
        for script in ((("write", "a", "q"),), (("drop", "b"), ("remove", "a")), (("move", "a", "c"), ("append", "c", "x")),
                       (("link", "a", "c"),), (("drop", "a"),), (("file", "a"),)):
            self.check(BASE, "c", script, (0, 0))

    def test_both(self):
        self.check(BASE, "c", (("copy", "a", "f"),), (4, 3))
        self.check(BASE, "a", (("copy", "a", "f"),), (1, 1))
        self.check(BASE, "c", (("file", "b/f"),), (4, 3))
        # More of one of them only.
        self.check(BASE, "c", (("link", "a", "b/f"),), (0, 3))
        self.check(BASE, "c", (("append", "a", "p"), ("append", "a", "p"), ("append", "a", "p")), (0, 3))

    def test_scripts_that_fail_on_the_way(self):
        self.check(BASE, "c", (("file", "f"), ("file", "f"), ("file", "g")), (4, 0))
        self.check(BASE, "c", (("file", "f"), ("copy", "q", "h")), (4, 0))
        self.check(BASE, "c", (("drop", "a"), ("file", "f")), (0, 0))
        full = nodes_of(*[("a", 16)] * 15)
        self.check(full, "a", (("append", "a", "x"),), (0, 0))

    def test_scripts_that_free_what_they_made(self):
        self.check(BASE, "c", (("file", "f"), ("remove", "f")), (4, 0))
        self.check(BASE, "c", (("copy", "a", "f"), ("remove", "f"), ("file", "g")), (4, 3))
        self.check(BASE, "c", (("drop", "b"), ("folder", "b")), (3, 0))
        self.check(BASE, "c", (("remove", "a"), ("file", "a"), ("append", "a", "x")), (3, 2))
        self.check(BASE, "c", (("remove", "a"), ("drop", "b"), ("file", "a")), (2, 1))

    def test_only_the_user_counts(self):
        table = nodes_of(*[("a", 4)] * 4)
        self.check(table, "b", (("append", "a", "x"),), (0, 0))
        self.check(table, "b", (("file", "f"), ("append", "a", "x")), (1, 0))
        self.check(table, "d", (("file", "f"),), (2, 2))

    def test_any_scripts(self):
        dice = random.Random(247)
        seen = set()
        for table in some_tables(248, 120, rights=("rwrw", "rwrw", "rwr-")):
            user, script = dice.choice("abcd"), random_script(dice, table, "a", PATHS)
            found = least_limits(table, user, script)
            self.check(table, user, script, found)
            seen.add((found[0] > 0, found[1] > 0))
        self.assertGreaterEqual(len(seen), 3)


class WrongArguments(unittest.TestCase):
    LIMITS = (("c", 3, 2),)
    CALL, SCRIPT = ("file", "f"), (("file", "f"),)

    def raises(self, error, function, *arguments):
        with self.assertRaises(error, msg=(function, repr(arguments)[:200])):
            function(*arguments)

    def test_tables(self):
        for value in wrong_values([BASE, BASE[0]], 249, 300):
            if right_table(value):
                continue
            for rest in ((used, "c"), (used, None), (over, self.LIMITS), (over, None), (act_within, self.LIMITS, "c", self.CALL),
                         (act_within, None, None, None), (least_limits, "c", self.SCRIPT), (least_limits, None, None)):
                self.raises(InvalidTable, rest[0], value, *rest[1:])

    def test_limits(self):
        for value in wrong_values([self.LIMITS, (("a", 1, 2), ("b", 3, 4))], 250, 300):
            if right_limits(value):
                continue
            self.raises(InvalidLimits, over, BASE, value)
            self.raises(InvalidLimits, act_within, BASE, value, "c", self.CALL)
            self.raises(InvalidLimits, act_within, BASE, value, None, None)

    def test_users(self):
        for value in wrong_values(["a", "c"], 251, 60) + ["e", "", "ab"]:
            if right_user(value):
                continue
            self.raises(InvalidUser, used, BASE, value)
            self.raises(InvalidUser, act_within, BASE, self.LIMITS, value, self.CALL)
            self.raises(InvalidUser, act_within, BASE, self.LIMITS, value, None)
            self.raises(InvalidUser, least_limits, BASE, value, self.SCRIPT)
            self.raises(InvalidUser, least_limits, BASE, value, None)

    def test_calls_and_scripts(self):
        for value in wrong_values([self.CALL, self.SCRIPT, ("move", "a", "b")], 252, 200):
            if not right_call(value):
                self.raises(InvalidCall, act_within, BASE, (), "c", value)
            if not right_script(value):
                self.raises(InvalidScript, least_limits, BASE, "c", value)
        self.raises(InvalidScript, least_limits, BASE, "c", self.SCRIPT * 7)

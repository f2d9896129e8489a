"""[0.3], [25.1], [25.2], [25.3]: sessions."""

import random
import unittest

from helpers import right_call, right_path, random_call, wrong_values
from plaintables import RIGHTS, plain_act, right_rights, right_table, right_user, some_tables
from scripttrees.acting import act, grant
from scripttrees.errors import InvalidCall, InvalidPath, InvalidRights, InvalidTable, InvalidUser, NothingToUndo
from scripttrees.session import Session
from scripttrees.tables import table_of
from scripttrees.texts import script_text

BASE = table_of((("b",), ((("a",), ("x", "y")),)), "c")
PATHS = ("a", "b", "c", "a/b", "b/a", "c/d", "d")


def state(session):
    return session.table(), session.user(), session.log()


class Basics(unittest.TestCase):
    def test_example(self):
        s = Session(BASE, "c")
        self.assertEqual(s.do(("drop", "b")), "ok")

    def test_at_the_beginning(self):
        for user in "abcd":
            self.assertEqual(state(Session(BASE, user)), (BASE, user, []))

    def test_methods_stand_in_the_class(self):
        for name in "table user log do grant become undo redo copy __eq__ __len__ __init__".split():
            self.assertIn(name, vars(Session))

    def test_wrong_arguments(self):
        for value in wrong_values([BASE, BASE[0]], 251, 300):
            if not right_table(value):
                with self.assertRaises(InvalidTable, msg=repr(value)[:100]):
                    Session(value, "c")
                with self.assertRaises(InvalidTable):
                    Session(value, None)
        for value in wrong_values(["a", "d"], 252, 60) + ["e", "", "ab", ["a"]]:
            if not right_user(value):
                with self.assertRaises(InvalidUser, msg=repr(value)[:100]):
                    Session(BASE, value)


class Doing(unittest.TestCase):
    def test_calls(self):
        s = Session(BASE, "a")
        script = (("file", "f"), ("file", "f"), ("write", "f", "q"), ("drop", "a"), ("move", "f", "b/f"), ("copy", "a", "q/f"))
        results = ["ok", "exists", "ok", "not folder", "ok", "missing"]
        table = BASE
        for at, call in enumerate(script):
            self.assertEqual(s.do(call), results[at])
            table = act(table, "a", call)[1]
            self.assertEqual(s.table(), table)
            self.assertEqual(s.log(), [("a", script_text((script[row],)), results[row]) for row in range(at + 1)])
        self.assertEqual(s.log()[4], ("a", "move f b/f", "ok"))
        self.assertEqual(s.user(), "a")

    def test_denied_and_full(self):
        s = Session(tuple(node[:3] + ("rwr-",) + node[4:] for node in BASE), "a")
        self.assertEqual(s.do(("file", "f")), "denied")
        self.assertEqual(s.log(), [("a", "file f", "denied")])
        with self.assertRaises(NothingToUndo):
            s.undo()

    def test_wrong_calls(self):
        s = Session(BASE, "c")
        s.do(("drop", "b"))
        before = state(s)
        for value in wrong_values([("file", "f"), ("move", "a", "b")], 253, 200):
            if right_call(value):
                continue
            with self.assertRaises(InvalidCall, msg=repr(value)[:100]):
                s.do(value)
        self.assertEqual(state(s), before)
        s.undo()
        s.redo()
        self.assertEqual(state(s), before)

    def test_returned_logs_are_new(self):
        s = Session(BASE, "c")
        s.do(("drop", "b"))
        s.log().append("more")
        s.log().clear()
        self.assertEqual(s.log(), [("c", "drop b", "ok")])


class Granting(unittest.TestCase):
    def test_granting(self):
        s = Session(BASE, "c")
        self.assertEqual(s.grant("b", "rw--"), "ok")
        self.assertEqual(s.table(), grant(BASE, "c", "b", "rw--")[1])
        self.assertEqual(s.grant("", "rwr-"), "ok")
        self.assertEqual(s.grant("q", "rwr-"), "missing")
        self.assertEqual(s.grant("a/q", "rwr-"), "not folder")
        table = s.table()
        self.assertEqual([node[3] for node in table], ["rwr-", "rwrw", "rw--"])
        self.assertEqual(s.become("a"), "c")
        self.assertEqual(s.grant("a", "----"), "denied")
        self.assertEqual(s.grant("b/q", "----"), "denied")
        self.assertEqual(s.grant("", "----"), "denied")
        self.assertEqual(s.table(), table)
        # These are no calls.
        self.assertEqual(s.log(), [])

    def test_wrong_arguments(self):
        s = Session(BASE, "c")
        s.do(("file", "f"))
        s.undo()
        before = state(s)
        for value in wrong_values(["a", "", "a/b"], 254, 100) + ["/", "a/", "A"]:
            if value == "" or right_path(value):
                continue
            for rights in ("rwrw", None):
                with self.assertRaises(InvalidPath, msg=repr(value)[:100]):
                    s.grant(value, rights)
        for value in wrong_values(["rwrw", "r---"], 255, 100) + ["wrwr", "rw", "rwrw-", ["rwrw"]]:
            if not right_rights(value):
                with self.assertRaises(InvalidRights, msg=repr(value)[:100]):
                    s.grant("a", value)
        self.assertEqual(state(s), before)
        s.redo()
        self.assertEqual(len(s), 4)


class Becoming(unittest.TestCase):
    def test_becoming(self):
        s = Session(BASE, "c")
        self.assertEqual(s.become("a"), "c")
        self.assertEqual(s.user(), "a")
        self.assertEqual(s.become("a"), "a")
        self.assertEqual(s.do(("file", "f")), "ok")
        self.assertEqual(s.become("d"), "a")
        self.assertEqual(s.do(("file", "f")), "exists")
        self.assertEqual(s.log(), [("a", "file f", "ok"), ("d", "file f", "exists")])
        self.assertEqual(s.table()[3][2], "a")

    def test_wrong_users(self):
        s = Session(BASE, "c")
        s.become("b")
        s.undo()
        for value in wrong_values(["a", "d"], 256, 60) + ["e", "", "ab"]:
            if not right_user(value):
                with self.assertRaises(InvalidUser, msg=repr(value)[:100]):
                    s.become(value)
        self.assertEqual(state(s), (BASE, "c", []))
        s.redo()
        self.assertEqual(s.user(), "b")


class Undoing(unittest.TestCase):
    def nothing(self, *methods):
        for method in methods:
            with self.assertRaises(NothingToUndo):
                method()

    def test_nothing_to_do(self):
        s = Session(BASE, "c")
        self.nothing(s.undo, s.redo)
        s.do(("drop", "a"))
        s.grant("q", "rwrw")
        self.nothing(s.undo, s.redo)
        self.assertEqual(state(s), (BASE, "c", [("c", "drop a", "not folder")]))
        s.do(("drop", "b"))
        self.nothing(s.redo)
        self.assertIsNone(s.undo())
        self.nothing(s.undo)
        self.assertIsNone(s.redo())
        self.nothing(s.redo)
        s.undo()
        self.nothing(s.undo)
        self.assertEqual(s.table(), BASE)

    def test_each_kind_of_step(self):
        s = Session(BASE, "c")
        states = [(BASE, "c")]
        for step in (lambda: s.do(("drop", "b")), lambda: s.grant("a", "rw--"), lambda: s.become("d"), lambda: s.do(("file", "q")),
                     lambda: s.become("a"), lambda: s.become("c"), lambda: s.grant("", "rwr-")):
            step()
            states.append((s.table(), s.user()))
        log = s.log()
        self.assertEqual(log, [("c", "drop b", "ok"), ("d", "file q", "ok")])
        for _ in range(2):
            for before in states[-2::-1]:
                s.undo()
                self.assertEqual((s.table(), s.user()), before)
            self.nothing(s.undo)
            for after in states[1:]:
                s.redo()
                self.assertEqual((s.table(), s.user()), after)
            self.nothing(s.redo)
        # The log keeps all entries.
        self.assertEqual(s.log(), log)

    def test_steps_that_change_nothing(self):
        s = Session(BASE, "c")
        s.do(("drop", "b"))
        table = s.table()
        s.do(("move", "a", "a"))
        s.grant("a", "rwrw")
        s.become("c")
        for _ in range(3):
            s.undo()
            self.assertEqual((s.table(), s.user()), (table, "c"))
        s.undo()
        self.assertEqual(s.table(), BASE)
        self.nothing(s.undo)

    def test_what_fails_is_passed_over(self):
        s = Session(BASE, "c")
        s.do(("drop", "b"))
        s.do(("drop", "b"))
        s.grant("b", "rwrw")
        s.undo()
        self.assertEqual(s.table(), BASE)
        self.nothing(s.undo)

    def test_what_clears_the_redo_list(self):
        for step in (lambda s: s.do(("file", "f")), lambda s: s.do(("move", "a", "a")), lambda s: s.grant("a", "rwrw"),
                     lambda s: s.become("a"), lambda s: s.become("c")):
            s = Session(BASE, "c")
            s.do(("drop", "b"))
            s.undo()
            step(s)
            now = s.table(), s.user()
            self.nothing(s.redo)
            self.assertEqual((s.table(), s.user()), now)
            s.undo()
            self.assertEqual((s.table(), s.user()), (BASE, "c"))
            self.nothing(s.undo)

    def test_what_does_not_clear_it(self):
        s = Session(BASE, "c")
        s.do(("drop", "b"))
        after = s.table()
        s.undo()
        s.do(("drop", "a"))
        s.grant("q", "rwrw")
        s.become("a")
        s.undo()
        self.assertEqual(s.user(), "c")
        # A new become cleared it.
        s.redo()
        self.assertEqual((s.table(), s.user()), (BASE, "a"))
        s = Session(BASE, "c")
        s.do(("drop", "b"))
        s.undo()
        self.assertEqual(s.do(("drop", "a")), "not folder")
        self.assertEqual(s.grant("q", "rwrw"), "missing")
        for wrong in (lambda: s.do(None), lambda: s.grant("a", None), lambda: s.become(None)):
            with self.assertRaises(ValueError):
                wrong()
        s.table(), s.user(), s.log(), s.copy(), len(s)
        s.redo()
        self.assertEqual(s.table(), after)
        self.assertEqual(s.log(), [("c", "drop b", "ok"), ("c", "drop a", "not folder")])


class Copies(unittest.TestCase):
    def test_copies(self):
        s = Session(BASE, "c")
        s.do(("drop", "b"))
        s.become("a")
        s.do(("file", "q"))
        s.undo()
        other = s.copy()
        self.assertIs(type(other), Session)
        self.assertEqual(state(other), state(s))
        self.assertTrue(other == s)
        # The copy goes its own way.
        other.redo()
        other.do(("file", "r"))
        other.become("d")
        self.assertEqual(len(s), 2)
        self.assertEqual((s.user(), s.log()), ("a", [("c", "drop b", "ok"), ("a", "file q", "ok")]))
        s.redo()
        self.assertEqual(len(s), 3)
        with self.assertRaises(NothingToUndo):
            s.redo()
        for _ in range(3):
            s.undo()
        self.assertEqual((s.table(), s.user()), (BASE, "c"))
        for _ in range(5):
            other.undo()
        self.assertEqual((other.table(), other.user()), (BASE, "c"))
        with self.assertRaises(NothingToUndo):
            other.undo()
        for _ in range(5):
            other.redo()
        self.assertEqual((len(other), other.user()), (4, "d"))
        self.assertEqual(len(s.log()), 2)
        self.assertEqual(len(other.log()), 3)

    def test_what_changes_the_first_one_leaves_the_copy(self):
        s = Session(BASE, "c")
        s.do(("drop", "b"))
        other = s.copy()
        s.undo()
        s.do(("file", "f"))
        self.assertEqual((len(other), other.log()), (2, [("c", "drop b", "ok")]))
        with self.assertRaises(NothingToUndo):
            other.redo()
        other.undo()
        self.assertEqual(other.table(), BASE)

    def test_two_sessions_have_nothing_in_common(self):
        one, other = Session(BASE, "c"), Session(BASE, "c")
        one.do(("drop", "b"))
        one.become("a")
        self.assertEqual(state(other), (BASE, "c", []))
        with self.assertRaises(NothingToUndo):
            other.undo()


class Comparing(unittest.TestCase):
    def test_equal_sessions(self):
        one, other = Session(BASE, "c"), Session(BASE, "c")
        self.assertIs(one == other, True)
        self.assertIs(one != other, False)
        self.assertIs(one == one, True)
        # Neither the log nor what can be undone counts.
        one.do(("drop", "b"))
        self.assertIs(one == other, False)
        self.assertIs(one != other, True)
        one.undo()
        self.assertIs(one == other, True)
        one.do(("drop", "b"))
        one.do(("folder", "b"))
        one.grant("b", "rwrw")
        self.assertIs(one == other, True)
        one.become("a")
        self.assertIs(one == other, False)
        other.become("a")
        self.assertIs(one == other, True)
        self.assertIs(Session(BASE, "a") == Session(BASE, "b"), False)

    def test_other_objects(self):
        s = Session(BASE, "c")

        class Like:
            def table(self):
                return BASE

            def user(self):
                return "c"

        for other in (None, True, False, 0, 3, "c", "", BASE, (BASE, "c"), [BASE, "c"], (), [], Like(), Session, object()):
            self.assertIs(s == other, False)
            self.assertIs(other == s, False)
            self.assertIs(s != other, True)

    def test_len(self):
        s = Session(BASE, "c")
        self.assertEqual(len(s), 3)
        s.do(("file", "f"))
        self.assertEqual(len(s), 4)
        s.do(("link", "f", "g"))
        self.assertEqual(len(s), 4)
        s.undo()
        s.undo()
        self.assertEqual(len(s), 3)
        self.assertEqual(len(Session(((0, "folder", "a", "rwrw", ()),), "a")), 1)


class AnyTurns(unittest.TestCase):
    def test_any_turns(self):
        dice = random.Random(257)
        undone = 0
        for table in some_tables(258, 200, rights=("rwrw", "rwrw", "rwr-", "rw--")):
            s, log = Session(table, "a"), []
            # All steps that were made, and how many of them hold.
            states, at = [(table, "a")], 0
            for _ in range(25):
                now, user = states[at]
                turn = dice.randrange(8)
                if turn < 3:
                    call = random_call(dice, PATHS)
                    result, after, _ = plain_act(now, user, call)
                    self.assertEqual(s.do(call), result)
                    log.append((user, " ".join(call), result))
                    step = (after, user) if result == "ok" else None
                elif turn == 3:
                    path, rights = dice.choice(PATHS + ("",)), dice.choice(RIGHTS)
                    result, after = grant(now, user, path, rights)
                    self.assertEqual(s.grant(path, rights), result)
                    step = (after, user) if result == "ok" else None
                elif turn == 4:
                    other = dice.choice("abcd")
                    self.assertEqual(s.become(other), user)
                    step = (now, other)
                else:
                    step = None
                    move = -1 if turn < 7 else 1
                    method = s.undo if move < 0 else s.redo
                    if 0 <= at + move < len(states):
                        self.assertIsNone(method())
                        at += move
                        undone += 1
                    else:
                        with self.assertRaises(NothingToUndo):
                            method()
                if step is not None:
                    states, at = states[:at + 1] + [step], at + 1
                self.assertEqual(state(s), states[at] + (log,))
                self.assertEqual(len(s), len(states[at][0]))
                if dice.random() < 0.1:
                    s = s.copy()
        self.assertGreater(undone, 500)

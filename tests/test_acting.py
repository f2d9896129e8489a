"""[0.2] (a) and (d), [0.3], [15.1], [15.2], [15.3], [15.4], [15.5]: users who act."""

import random
import unittest

from helpers import random_call, random_tree, right_call, right_path, unchanged, wrong_values
from plain import plain_call, plain_run
from plaintables import RIGHTS, USERS, plain_act, plain_shown, random_table, right_rights, right_table, right_user, some_tables
from scripttrees.acting import act, act_all, grant, may, needed_rights, tables_along
from scripttrees.calls import result_of, tree_after
from scripttrees.errors import (InvalidCall, InvalidNumber, InvalidPath, InvalidRights, InvalidScript, InvalidSign,
                                InvalidTable, InvalidUser)
from scripttrees.tables import is_table, shown, table_of
from test_tables import NAMES, TABLES, file, folder, root
from worlds import right_script

BASE = table_of((("b",), ((("a",), ("x", "y")),)), "c")
PATHS = ("a", "b", "c", "a/a", "a/b", "b/a", "a/b/c", "b/c")
CALLS = [("folder", "a"), ("write", "a/b", "x"), ("move", "a", "b/c")]
SCRIPTS = [(), (("folder", "a"),), (("folder", "d"), ("file", "d/f"), ("drop", "b"))]


class May(unittest.TestCase):
    def test_example(self):
        self.assertIs(may(BASE, "a", 1, "w"), True)

    def test_each_right(self):
        for rights in RIGHTS:
            table = (root(("f", 5), rights=rights), file(5, owner="b", rights=rights))
            for number, owner in ((0, "a"), (5, "b")):
                for user in USERS:
                    half = rights[:2] if user == owner else rights[2:]
                    for sign in "rw":
                        self.assertIs(may(table, user, number, sign), sign in half, (rights, user, number, sign))
        unchanged(self, may, BASE, "a", 1, "w")

    def test_wrong_arguments(self):
        for number in (3, 15, 16, -1, True, False, None, "1", (1,), [0], 10 ** 3000):
            with self.assertRaises(InvalidNumber, msg=repr(number)[:80]):
                may(BASE, "a", number, "r")
            with self.assertRaises(InvalidNumber):
                may(BASE, "a", number, None)
        for sign in ("", "rw", "R", "x", "-", None, True, 0, ("r",), ["r"]):
            with self.assertRaises(InvalidSign, msg=repr(sign)):
                may(BASE, "a", 1, sign)
        for value in wrong_values([1, 2, "r", "w"], 151, 60):
            if not (type(value) is int and value in (0, 1, 2)):
                with self.assertRaises(InvalidNumber, msg=repr(value)[:80]):
                    may(BASE, "a", value, "q")
            if value not in ("r", "w"):
                with self.assertRaises(InvalidSign, msg=repr(value)[:80]):
                    may(BASE, "a", 1, value)


class Acting(unittest.TestCase):
    def check(self, table, user, call, result, after=None):
        """See that a call has a result, and that it leaves the table as it was if none is told."""
        self.assertEqual(unchanged(self, act, table, user, call), (result, table if after is None else after))
        self.assertEqual(plain_act(table, user, call)[0], result)

    def test_example(self):
        self.check(BASE, "a", ("remove", "b"), "is folder")

    def test_what_succeeds(self):
        def base(*entries):
            return 0, "folder", "c", "rwrw", entries

        one, two = (1, "file", "c", "rwrw", ("x", "y")), (2, "folder", "c", "rwrw", ())
        a, b = ("a", 1), ("b", 2)
        self.check(BASE, "d", ("folder", "c"), "ok", (base(a, b, ("c", 3)), one, two, folder(3, owner="d", rights="rwr-")))
        self.check(BASE, "d", ("file", "b/q"), "ok", (base(a, b), one, two[:4] + ((("q", 3),),),
                                                      file(3, owner="d", rights="rwr-")))
        self.check(BASE, "d", ("write", "a", "q"), "ok", (base(a, b), one[:4] + (("q",),), two))
        self.check(BASE, "d", ("append", "a", "q"), "ok", (base(a, b), one[:4] + (("x", "y", "q"),), two))
        self.check(BASE, "d", ("copy", "a", "c"), "ok", (base(a, b, ("c", 3)), one, two,
                                                         file(3, "x", "y", owner="d", rights="rwr-")))
        self.check(BASE, "d", ("link", "a", "b/c"), "ok", (base(a, b), one, two[:4] + ((("c", 1),),)))
        self.check(BASE, "d", ("remove", "a"), "ok", (base(b), two))
        self.check(BASE, "d", ("drop", "b"), "ok", (base(a), one))
        self.check(BASE, "d", ("move", "a", "b/c"), "ok", (base(b), one, two[:4] + ((("c", 1),),)))
        self.check(BASE, "d", ("move", "b", "c"), "ok", (base(a, ("c", 2)), one, two))
        self.check(BASE, "d", ("move", "a", "a"), "ok", BASE)

    def test_least_free_number(self):
        table = (root(("a", 1), ("b", 3), rights="rwrw"), folder(1), folder(3))
        self.assertEqual(act(table, "b", ("file", "c"))[1][2], file(2, owner="b", rights="rwr-"))
        self.assertEqual(act(table, "b", ("drop", "a")), ("ok", (root(("b", 3), rights="rwrw"), folder(3))))
        done, _, after = act_all(table, "b", (("drop", "a"), ("file", "c"), ("file", "d")))
        self.assertEqual((done, after[0][4], after[1][0], after[2][0]), (3, (("b", 3), ("c", 1), ("d", 2)), 1, 2))

    def test_nodes_that_are_taken_away(self):
        table = (root(("a", 1), ("b", 2), ("c", 1), rights="rwrw"), file(1, "x"), file(2, "y"))
        self.check(table, "d", ("remove", "a"), "ok", (root(("b", 2), ("c", 1), rights="rwrw"), file(1, "x"), file(2, "y")))
        self.check(table, "d", ("remove", "b"), "ok", (root(("a", 1), ("c", 1), rights="rwrw"), file(1, "x")))
        self.check(table, "d", ("move", "a", "b"), "ok", (root(("b", 1), ("c", 1), rights="rwrw"), file(1, "x")))
        self.check(table, "d", ("move", "b", "a"), "ok", (root(("a", 2), ("c", 1), rights="rwrw"), file(1, "x"), file(2, "y")))
        self.check(table, "d", ("move", "a", "c"), "ok", table)
        folders = (root(("a", 1), ("b", 2), rights="rwrw"), folder(1), folder(2, ("f", 3)), file(3))
        self.check(folders, "d", ("move", "b", "a"), "ok", (root(("a", 2), rights="rwrw"), folder(2, ("f", 3)), file(3)))
        self.check(folders, "d", ("move", "a", "b"), "not empty")

    def test_denied_on_the_way(self):
        # The folder may not be read by others; it is b's.
        table = (root(("a", 1), ("f", 2), rights="rwrw"), folder(1, ("c", 3), owner="b", rights="rw-w"), file(2), folder(3))
        for call in (("folder", "a/q"), ("file", "a/q"), ("remove", "a/c"), ("drop", "a/c"), ("write", "a/c", "x"),
                     ("append", "a/q", "x"), ("copy", "f", "a/q"), ("link", "f", "a/q"), ("move", "f", "a/q"),
                     ("copy", "a/q", "f"), ("move", "a/c", "q"), ("drop", "a/q/q")):
            self.check(table, "d", call, "denied")
        self.check(table, "b", ("drop", "a/c"), "ok", (table[0], folder(1, owner="b", rights="rw-w"), table[2]))
        # The name of the folder itself is looked up in the root folder.
        self.check(table, "d", ("drop", "a"), "not empty")
        self.check(table, "d", ("move", "a", "q"), "ok", act(table, "b", ("move", "a", "q"))[1])
        # What is found before the folder that may not be read comes first, by the order of the paths.
        self.check(table, "d", ("move", "q/q", "a/q"), "missing")
        self.check(table, "d", ("move", "a/q", "q/q"), "denied")
        self.check(table, "d", ("copy", "f/q", "a/q"), "not folder")
        self.check(table, "d", ("copy", "a/c/q", "q/q"), "denied")
        # The way comes before what the call would find at its end.
        self.check(table, "d", ("move", "q", "a/q"), "denied")
        unread = (root(rights="-w-w"),)
        for user in USERS:
            for call in (("folder", "a"), ("drop", "a"), ("remove", "a/b"), ("move", "a", "b")):
                self.check(unread, user, call, "denied")

    def test_denied_writing_of_folders(self):
        table = (root(("a", 1), ("f", 2), rights="rwr-"), folder(1, ("g", 3), owner="b", rights="rwrw"), file(2), file(3, owner="b"))
        for call in (("folder", "q"), ("folder", "f"), ("file", "q"), ("file", "a"), ("remove", "q"), ("remove", "a"),
                     ("drop", "q"), ("drop", "f"), ("drop", "a"), ("copy", "a/q", "q"), ("link", "a/q", "f"),
                     ("move", "q", "a/q"), ("move", "a/q", "q"), ("move", "a/g", "a"), ("move", "f", "f"),
                     ("move", "a", "a/q")):
            self.check(table, "c", call, "denied")
        # Only the second path of a copy or a link is written, and neither path of a write.
        self.check(table, "c", ("link", "f", "a/q"), "ok", act(table, "a", ("link", "f", "a/q"))[1])
        self.check(table, "c", ("copy", "q", "a/q"), "missing")
        self.check(table, "c", ("write", "q", "x"), "missing")
        self.check(table, "c", ("append", "a", "x"), "is folder")
        # Both ways are walked before.
        self.check(table, "c", ("move", "q", "q/q"), "missing")
        self.check(table, "c", ("copy", "q", "f/q"), "not folder")

    def test_denied_reading_and_writing_of_files(self):
        table = (root(("a", 1), ("b", 2), ("c", 3), rights="rwrw"), file(1, "x", rights="-w-w"), file(2, "x", rights="r-r-"),
                 folder(3, rights="----"))
        for user in ("a", "b"):
            self.check(table, user, ("write", "b", "q"), "denied")
            self.check(table, user, ("append", "b", "q"), "denied")
            self.check(table, user, ("append", "c", "q"), "is folder")
            self.check(table, user, ("write", "d", "q"), "missing")
            self.assertEqual(act(table, user, ("write", "a", "q"))[0], "ok")
            self.assertEqual(act(table, user, ("append", "a", "q"))[1][1][4], ("x", "q"))
            self.check(table, user, ("copy", "a", "q"), "denied")
            # The right to read comes before what stands at the second path, and behind what stands at the first one.
            self.check(table, user, ("copy", "a", "b"), "denied")
            self.check(table, user, ("copy", "b", "a"), "exists")
            self.check(table, user, ("copy", "c", "a"), "is folder")
            self.check(table, user, ("copy", "d", "a"), "missing")
            # No other call asks for rights of what is at the end of its paths.
            self.assertEqual(act(table, user, ("link", "a", "q"))[0], "ok")
            self.assertEqual(act(table, user, ("remove", "a"))[0], "ok")
            self.assertEqual(act(table, user, ("move", "a", "b"))[0], "ok")
            self.assertEqual(act(table, user, ("drop", "c"))[0], "ok")
            self.assertEqual(act(table, user, ("move", "c", "d"))[0], "ok")
            self.check(table, user, ("move", "c", "c/d"), "denied")

    def test_owner_and_others(self):
        table = (root(("f", 1), rights="rw--"), file(1, "x", owner="b", rights="--rw"))
        self.check(table, "b", ("write", "f", "q"), "denied")
        self.assertEqual(act(table, "a", ("write", "f", "q"))[1][1], file(1, "q", owner="b", rights="--rw"))
        made = (root(rights="rwrw"),)
        for user, other in (("a", "b"), ("d", "a")):
            after = act_all(made, user, (("folder", "a"), ("file", "a/f")))[2]
            self.assertEqual(act(after, user, ("write", "a/f", "q"))[0], "ok")
            self.check(after, other, ("write", "a/f", "q"), "denied")
            self.check(after, other, ("file", "a/g"), "denied")
            self.assertEqual(act(after, other, ("copy", "a/f", "g"))[0], "ok")

    def test_full_numbers(self):
        table = table_of((tuple(NAMES[:14]), ((("f",), ("x",)),)), "a")
        self.assertEqual(len(table), 16)
        for call in (("folder", "aa/q"), ("file", "aa/q"), ("copy", "f", "aa/q")):
            self.check(table, "b", call, "full")
        self.check(table, "b", ("folder", "q"), "full")
        self.check(table, "b", ("copy", "f", "f"), "exists")
        self.assertEqual(act(table, "b", ("link", "f", "aa/q"))[0], "ok")
        self.assertEqual(act(table, "b", ("move", "f", "aa/q"))[0], "ok")
        self.assertEqual(act_all(table, "b", (("remove", "f"), ("file", "aa/q"), ("file", "q")))[:2], (2, "full"))

    def test_full_entries(self):
        names = NAMES[:16]
        table = (root(("d", 2), ("f", 1), ("g", 3), rights="rwrw"), file(1, "x", rights="rwrw"),
                 folder(2, *[(name, 1) for name in names], rights="rwrw"), folder(3, rights="rwrw"))
        self.assertTrue(is_table(table))
        for call in (("folder", "d/q"), ("file", "d/q"), ("copy", "f", "d/q"), ("link", "f", "d/q"), ("move", "g", "d/q")):
            self.check(table, "b", call, "full")
        self.check(table, "b", ("link", "f", "d/aa"), "exists")
        # Nothing changes where both paths lead to the same file, and no entry more is needed in the same folder.
        self.check(table, "b", ("move", "f", "d/aa"), "ok")
        self.assertEqual(act(table, "b", ("move", "d/aa", "d/q"))[0], "ok")
        other = table[:1] + (file(1, "x"),) + (folder(2, ("aa", 4), *[(name, 1) for name in names[1:]], rights="rwrw"),) + (
            table[3], file(4))
        self.assertTrue(is_table(other))
        self.assertEqual(act(other, "b", ("move", "f", "d/aa"))[0], "ok")
        self.assertEqual(len(act(other, "b", ("move", "f", "d/aa"))[1]), 4)
        self.assertEqual(act(table, "b", ("remove", "d/aa"))[0], "ok")
        chain = (root(("d", 2), ("g", 3), rights="rwrw"), file(1),
                 folder(2, ("aa", 4), *[(name, 1) for name in names[1:]], rights="rwrw"), folder(3), folder(4))
        self.assertTrue(is_table(chain))
        self.assertEqual(act(chain, "b", ("move", "g", "d/aa"))[0], "ok")
        self.check(chain, "b", ("move", "g", "d/q"), "full")

    def test_full_words(self):
        table = table_of(((), ((("a",), ("x",) * 16), (("b",), ("x",) * 15))), "a")
        self.check(table, "b", ("append", "a", "q"), "full")
        self.assertEqual(act(table, "b", ("write", "a", "q"))[1][1][4], ("q",))
        self.assertEqual(act_all(table, "b", (("append", "b", "q"), ("append", "b", "q")))[:2], (1, "full"))
        denied = (root(("a", 1), rights="rwrw"), file(1, *["x"] * 16))
        self.check(denied, "b", ("append", "a", "q"), "denied")

    def test_random_calls(self):
        dice = random.Random(152)
        results = {}
        for turn in range(12000):
            rights = ("rwrw", "rwr-", "rwrw", "rw-w") if turn % 3 else RIGHTS
            table = random_table(dice, dice.choice((4, 8, 15)), rights=rights)
            user = dice.choice(USERS)
            call = random_call(dice, PATHS)
            result, after, _ = plain_act(table, user, call)
            self.assertEqual(act(table, user, call), (result, after), (table, user, call))
            self.assertTrue(right_table(after), (table, user, call))
            self.assertTrue(result == "ok" or after == table)
            results[call[0], result] = results.get((call[0], result), 0) + 1
        for kind in ("folder", "file", "write", "append", "copy", "link", "remove", "drop", "move"):
            for result in ("ok", "denied", "missing", "not folder"):
                self.assertGreater(results.get((kind, result), 0), 4, (kind, result))


class Trees(unittest.TestCase):
    def test_with_all_rights(self):
        """[15.3] and [0.2] (d): a call has the result and the tree that it has on the table's tree."""
        dice = random.Random(153)
        full = 0
        for _ in range(4000):
            table = random_table(dice, dice.choice((5, 10, 15)), rights=("rwrw",))
            tree, call, user = plain_shown(table), random_call(dice, PATHS), dice.choice(USERS)
            result, after = act(table, user, call)
            if result == "full":
                full += 1
                continue
            self.assertEqual(result, result_of(tree, call))
            self.assertEqual(shown(after), tree_after(tree, call))
            self.assertEqual((result, shown(after)), plain_call(tree, call))
        self.assertLess(full, 1000)

    def test_scripts_with_all_rights(self):
        dice = random.Random(154)
        whole = 0
        for _ in range(1500):
            tree = random_tree(dice, most=8, extra=("q",))
            table, user = table_of(tree, dice.choice(USERS)), dice.choice(USERS)
            script = tuple(random_call(dice, PATHS) for _ in range(dice.randint(0, 6)))
            done, result, after = act_all(table, user, script)
            self.assertNotEqual(result, "denied")
            if result != "full":
                self.assertEqual((done, result, shown(after)), plain_run(tree, script), (tree, script))
                whole += result == "ok"
        self.assertGreater(whole, 100)


class Scripts(unittest.TestCase):
    def check(self, table, user, script):
        """See that scripts are as their calls, one after the other."""
        tables, done, result = [table], 0, "ok"
        for call in script:
            result, after, _ = plain_act(tables[-1], user, call)
            if result != "ok":
                break
            done += 1
            tables.append(after)
        self.assertEqual(unchanged(self, act_all, table, user, script), (done, result, tables[-1]))
        self.assertEqual(unchanged(self, tables_along, table, user, script), tables)
        return result

    def test_named_edges(self):
        self.check(BASE, "a", ())
        self.assertEqual(act_all(BASE, "a", ()), (0, "ok", BASE))
        self.assertEqual(tables_along(BASE, "a", ()), [BASE])
        self.check(BASE, "a", (("drop", "a"), ("drop", "b")))
        self.assertEqual(act_all(BASE, "a", (("drop", "a"), ("drop", "b"))), (0, "not folder", BASE))
        self.check(BASE, "a", (("drop", "b"), ("drop", "b"), ("drop", "b")))
        self.check(BASE, "a", (("folder", "d"), ("folder", "d/d"), ("folder", "d/d/d"), ("move", "d/d", "b/d"), ("drop", "d")))
        # What the script makes belongs to its user.
        self.assertEqual(self.check((root(rights="rwrw"),), "b", (("folder", "a"), ("file", "a/f"), ("write", "a/f", "x"),
                                                                  ("copy", "a/f", "a/g"))), "ok")

    def test_random_scripts(self):
        dice = random.Random(155)
        results = set()
        for _ in range(1500):
            table = random_table(dice, rights=("rwrw", "rwr-", "rw-w", "rw--"))
            script = tuple(random_call(dice, PATHS) for _ in range(dice.randint(0, 6)))
            results.add(self.check(table, dice.choice(USERS), script))
        self.assertGreater(len(results), 6)


class Granting(unittest.TestCase):
    def check(self, table, user, path, rights, result, after=None):
        answer = unchanged(self, grant, table, user, path, rights)
        self.assertEqual(answer, (result, table if after is None else after))

    def test_named_edges(self):
        self.check(BASE, "a", "b", "rw--", "denied")
        self.check(BASE, "c", "b", "rw--", "ok", BASE[:2] + ((2, "folder", "c", "rw--", ()),))
        self.check(BASE, "c", "a", "----", "ok", (BASE[0], (1, "file", "c", "----", ("x", "y")), BASE[2]))
        self.check(BASE, "c", "", "r---", "ok", ((0, "folder", "c", "r---", BASE[0][4]),) + BASE[1:])
        self.check(BASE, "a", "", "r---", "denied")
        self.check(BASE, "c", "a", "rwrw", "ok", BASE)
        self.check(BASE, "c", "q", "rw--", "missing")
        self.check(BASE, "a", "b/q", "rw--", "missing")
        self.check(BASE, "c", "a/q", "rw--", "not folder")
        self.check(BASE, "c", "q/q", "rw--", "missing")
        self.check(BASE, "c", "a/q/q/q/zz", "rw--", "not folder")

    def test_rights_on_the_way(self):
        table = (root(("d", 1), owner="a", rights="rwr-"), folder(1, ("f", 2), ("g", 3), owner="b", rights="rw--"),
                 file(2, owner="c", rights="----"), folder(3, owner="b", rights="----"))
        self.check(table, "c", "d/f", "rwrw", "denied")
        self.check(table, "c", "d/q", "rwrw", "denied")
        self.check(table, "b", "d/f", "rwrw", "denied")
        self.check(table, "b", "d/q", "rwrw", "missing")
        self.check(table, "b", "d/g/q", "rwrw", "denied")
        # Neither the right to write the folder nor those of the node itself are asked for.
        self.check(table, "b", "d", "----", "ok", (table[0], folder(1, ("f", 2), ("g", 3), owner="b", rights="----")) + table[2:])
        self.check(table, "b", "d/g", "rwrw", "ok", table[:3] + (folder(3, owner="b", rights="rwrw"),))
        unread = (root(owner="a", rights="----"),)
        self.check(unread, "a", "", "rw--", "ok", (root(owner="a", rights="rw--"),))
        self.check(unread, "a", "q", "rw--", "denied")

    def test_long_ways(self):
        chain = (root(("a", 1)),) + tuple(folder(at, ("a", at + 1)) for at in range(1, 15)) + (folder(15),)
        path = "/".join("a" * 15)
        self.check(chain, "a", path, "rwrw", "ok", chain[:15] + (folder(15, rights="rwrw"),))
        self.check(chain, "a", path + "/a", "rwrw", "missing")

    def test_files_with_several_paths(self):
        table = (root(("a", 1), ("b", 1)), file(1))
        self.check(table, "a", "b", "r---", "ok", (table[0], file(1, rights="r---")))

    def test_wrong_arguments(self):
        for path in wrong_values(["a", "b/c", ""], 156, 80):
            if path == "" or right_path(path):
                grant(BASE, "a", path, "rw--")
            else:
                for rights in ("rw--", None):
                    with self.assertRaises(InvalidPath, msg=repr(path)[:80]):
                        grant(BASE, "a", path, rights)
        for rights in list(wrong_values(["rw--", "rwrw"], 157, 80)) + ["rw", "rwrx", "wrwr", "rwrwr", "rw-", "rr--"]:
            if not right_rights(rights):
                with self.assertRaises(InvalidRights, msg=repr(rights)[:80]):
                    grant(BASE, "a", "q", rights)


class Needed(unittest.TestCase):
    def check(self, table, script, rights):
        for user in USERS:
            self.assertEqual(unchanged(self, needed_rights, table, user, script), rights, (table, script))

    def test_example(self):
        self.check(BASE, (("write", "a", "q"),), [(0, "r"), (1, "w")])

    def test_each_kind_of_call(self):
        # The same, whoever may do what.
        for rights in ("rwrw", "----", "r-r-"):
            table = (root(("a", 1), ("b", 2), rights=rights), file(1, owner="b", rights=rights),
                     folder(2, ("c", 3), ("f", 4), rights=rights), folder(3, rights=rights), file(4, rights=rights))
            look, change = [(0, "r")], [(0, "r"), (0, "w")]
            self.check(table, (), [])
            self.check(table, (("folder", "q"),), change)
            self.check(table, (("file", "b/q"),), [(0, "r"), (2, "r"), (2, "w")])
            self.check(table, (("write", "a", "x"),), look + [(1, "w")])
            self.check(table, (("append", "b/f", "x"),), look + [(2, "r"), (4, "w")])
            self.check(table, (("copy", "a", "b/q"),), look + [(1, "r"), (2, "r"), (2, "w")])
            self.check(table, (("link", "a", "b/q"),), look + [(2, "r"), (2, "w")])
            self.check(table, (("remove", "b/f"),), look + [(2, "r"), (2, "w")])
            self.check(table, (("drop", "b/c"),), look + [(2, "r"), (2, "w")])
            self.check(table, (("move", "a", "b/f"),), change + [(2, "r"), (2, "w")])
            self.check(table, (("move", "b", "q"),), change)
            self.check(table, (("move", "a", "b/c/q"),), change + [(2, "r"), (3, "r"), (3, "w")])

    def test_not_behind_the_result(self):
        look, change = [(0, "r")], [(0, "r"), (0, "w")]
        self.check(BASE, (("write", "q", "x"),), look)
        self.check(BASE, (("write", "b", "x"),), look)
        self.check(BASE, (("write", "b/q", "x"),), look + [(2, "r")])
        self.check(BASE, (("write", "a/q", "x"),), look)
        self.check(BASE, (("folder", "q/q"),), look)
        self.check(BASE, (("move", "q/q", "b/q"),), look)
        self.check(BASE, (("move", "b/q", "q/q"),), look + [(2, "r")])
        self.check(BASE, (("move", "q", "b/q"),), change + [(2, "r"), (2, "w")])
        self.check(BASE, (("copy", "b", "q"),), change)
        self.check(BASE, (("copy", "q", "b"),), change)
        self.check(BASE, (("copy", "a", "b"),), change + [(1, "r")])
        self.check(BASE, (("folder", "a"),), change)
        full = table_of(((), ((("a",), ("x",) * 16),)), "a")
        self.check(full, (("append", "a", "q"),), look + [(1, "w")])

    def test_up_to_the_end(self):
        change = [(0, "r"), (0, "w")]
        self.check(BASE, (("drop", "b"), ("drop", "b"), ("write", "a", "q")), change)
        self.check(BASE, (("drop", "b"), ("drop", "a/q"), ("write", "a", "q")), change)
        self.check(BASE, (("drop", "b"), ("write", "a", "q")), change + [(1, "w")])
        self.check(BASE, (("file", "b/q"), ("remove", "b/q"), ("drop", "b")), change + [(2, "r"), (2, "w")])

    def test_nodes_that_the_script_made(self):
        change = [(0, "r"), (0, "w")]
        self.check(BASE, (("folder", "d"), ("file", "d/f"), ("write", "d/f", "x"), ("copy", "d/f", "d/g")), change)
        self.check(BASE, (("copy", "a", "d"), ("write", "d", "x")), change + [(1, "r")])
        self.check(BASE, (("link", "a", "d"), ("write", "d", "x")), change + [(1, "w")])
        self.check(BASE, (("folder", "d"), ("move", "d", "b"), ("file", "b/f")), change)
        # The number 2 belongs to the folder that was there first, and then to one that the script made.
        self.check(BASE, (("drop", "b"), ("folder", "b"), ("file", "b/f")), change)
        self.check(BASE, (("file", "b/q"), ("remove", "b/q"), ("drop", "b"), ("folder", "b"), ("file", "b/f")),
                   change + [(2, "r"), (2, "w")])

    def test_full_ends_the_script(self):
        table = table_of((tuple(NAMES[:14]), ((("f",), ("x",)),)), "a")
        self.check(table, (("folder", "q"), ("write", "f", "x")), [(0, "r"), (0, "w")])

    def test_random_scripts(self):
        dice = random.Random(158)
        for _ in range(1500):
            table, user = random_table(dice), dice.choice(USERS)
            script = tuple(random_call(dice, PATHS) for _ in range(dice.randint(0, 6)))
            asked, made, now = set(), set(), table
            for call in script:
                result, after, rows = plain_act(now, user, call, True)
                asked |= {row for row in rows if row[0] not in made}
                made |= {node[0] for node in after} - {node[0] for node in now}
                now = after
                if result != "ok":
                    break
            self.assertEqual(needed_rights(table, user, script), sorted(asked), (table, user, script))
            # Who has these rights is denied nothing.
            if all(may(table, user, number, sign) for number, sign in asked):
                self.assertNotEqual(act_all(table, user, script)[1], "denied")

    def test_who_lacks_one_is_denied(self):
        dice = random.Random(159)
        denied = 0
        for _ in range(1500):
            table, user = random_table(dice, rights=("rwrw", "rwrw", "rwr-", "r-rw")), dice.choice(USERS)
            script = tuple(random_call(dice, PATHS) for _ in range(dice.randint(1, 4)))
            lacking = [row for row in needed_rights(table, user, script) if not may(table, user, *row)]
            if lacking:
                self.assertEqual(act_all(table, user, script)[1], "denied", (table, user, script))
                denied += 1
        self.assertGreater(denied, 50)


class WrongArguments(unittest.TestCase):
    def calls(self, table, user):
        return ((may, table, user, 0, "r"), (may, table, user, None, None), (act, table, user, CALLS[0]),
                (act, table, user, None), (act_all, table, user, ()), (act_all, table, user, None),
                (tables_along, table, user, ()), (tables_along, table, user, []), (grant, table, user, "a", "rw--"),
                (grant, table, user, None, None), (needed_rights, table, user, ()), (needed_rights, table, user, None))

    def test_wrong_tables_come_first(self):
        for table in [value for value in wrong_values(TABLES, 160, 150) if not right_table(value)]:
            for user in ("a", None):
                for call in self.calls(table, user):
                    with self.assertRaises(InvalidTable, msg=repr(call)[:100]):
                        call[0](*call[1:])

    def test_wrong_users(self):
        for user in wrong_values(["a", "d"], 161, 40):
            if not right_user(user):
                for call in self.calls(BASE, user):
                    with self.assertRaises(InvalidUser, msg=repr(call)[:100]):
                        call[0](*call[1:])

    def test_wrong_calls_and_scripts(self):
        for call in [value for value in wrong_values(CALLS, 162, 200) if not right_call(value)]:
            with self.assertRaises(InvalidCall, msg=repr(call)[:100]):
                act(BASE, "a", call)
        self.assertEqual(len(tables_along(BASE, "a", (("move", "a", "a"),) * 6)), 7)
        for script in [value for value in wrong_values(SCRIPTS, 163, 200) if not right_script(value)] + [(CALLS[0],) * 7]:
            for function in (act_all, tables_along, needed_rights):
                with self.assertRaises(InvalidScript, msg=repr(script)[:100]):
                    function(BASE, "a", script)

    def test_some_tables(self):
        self.assertTrue(all(right_table(table) for table in some_tables(164, 100)))

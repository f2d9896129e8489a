"""What the tests share: the tree of the examples, wrong values, and random trees and calls."""

import copy
import random
import re

TREE = (("a", "a/b"), ((("a/f", "g"), ("x", "y")),))

NAME = re.compile("[a-z]{1,3}")
WORD = re.compile("[a-z]{1,4}")
PLAIN_NAME = re.compile("[a-y][a-z]{0,2}")
PLAIN_WORD = re.compile("[a-y][a-z]{0,3}")
SHAPES = {"folder": "p", "file": "p", "write": "pw", "append": "pw", "copy": "pp",
          "link": "pp", "remove": "p", "drop": "p", "move": "pp"}
RESULTS = ("ok", "missing", "not folder", "exists", "is folder", "not empty", "inside")


def deep(value, depth):
    for turn in range(depth):
        value = [value] if turn % 2 else (value,)
    return value


JUNK = [
    0, 1, -1, 7, 10 ** 3000, True, False, None, "", "a", "f", "x", "folder", "none", "zz", "A", "1", " ", "/",
    "a/", "/a", "a//b", "abcd", "a b", "\u00e9", "\u00aa", "\u0430", "a\n", "\ud800", "*", "ok",
    [], (), [[]], ((),), ([],), [()], [None], (None,), (0,), (True,), ("",), ("a",), ["a"], ("a", "b"), ["a", "b"],
    ("b", "a"), ("a", "a"), ("a", 1), (1, "a"), ("a", None), ((), ()), [(), ()], ((), []), ([], ()), ((), (), ()),
    ("folder", "a"), ["folder", "a"], ("folder", ["a"]), ("folder",), ("folder", "a", "b"), (("folder", "a"),),
    (["folder", "a"],), [("folder", "a")], (("a",), ()), (("a",), ((("b",), ()),)), (["a"], ()), (("a",), [(("b",), ())]),
    ((("a",), ()),), (((("a",), ()),),), ("a", "file"), ("a", "none"), ("a", ["file"]), (["a"], "file"),
    deep("a", 6), deep(None, 6), deep([1, ("a", [True])], 4), deep(("folder", "a"), 5), deep((), 5), (1, [2, (3, [4, (5,)])]),
]


def spoiled(value, dice):
    """Return a value in which one part is another one, is missing or comes twice."""
    if not isinstance(value, (tuple, list)) or not value or dice.random() < 0.2:
        return dice.choice(JUNK)
    rows = list(value)
    at = dice.randrange(len(rows))
    turn = dice.randrange(8)
    if turn == 0:
        del rows[at]
    elif turn == 1:
        rows.insert(at, rows[at])
    elif turn == 2:
        other = dice.randrange(len(rows))
        rows[at], rows[other] = rows[other], rows[at]
    elif turn == 3:
        return tuple(rows) if isinstance(value, list) else rows
    else:
        rows[at] = spoiled(rows[at], dice)
    return type(value)(rows)


def wrong_values(values, seed, many):
    """Return junk, and values that are nearly like some right ones."""
    dice = random.Random(seed)
    return JUNK + [spoiled(dice.choice(values), dice) for _ in range(many)]


def right_name(candidate):
    return isinstance(candidate, str) and NAME.fullmatch(candidate) is not None


def right_word(candidate):
    return isinstance(candidate, str) and WORD.fullmatch(candidate) is not None


def right_path(candidate):
    return isinstance(candidate, str) and all(NAME.fullmatch(name) for name in candidate.split("/"))


def right_call_path(candidate):
    if not isinstance(candidate, str):
        return False
    names = candidate.split("/")
    return len(names) <= 3 and all(PLAIN_NAME.fullmatch(name) for name in names)


def right_call(candidate):
    if type(candidate) is not tuple or not candidate or type(candidate[0]) is not str:
        return False
    shape = SHAPES.get(candidate[0])
    if shape is None or len(candidate) != len(shape) + 1:
        return False
    for part, sign in zip(candidate[1:], shape):
        if sign == "p" and not right_call_path(part):
            return False
        if sign == "w" and not (isinstance(part, str) and PLAIN_WORD.fullmatch(part)):
            return False
    return True


def right_tree(candidate):
    if type(candidate) is not tuple or len(candidate) != 2 or type(candidate[0]) is not tuple:
        return False
    folders, files = candidate
    if type(files) is not tuple or not all(right_path(path) for path in folders):
        return False
    for row in files:
        if type(row) is not tuple or len(row) != 2 or type(row[0]) is not tuple or type(row[1]) is not tuple:
            return False
        if not row[0] or not all(right_path(path) for path in row[0]) or list(row[0]) != sorted(row[0]):
            return False
        if len(row[1]) > 20 or not all(right_word(word) for word in row[1]):
            return False
    if list(folders) != sorted(folders) or list(files) != sorted(files):
        return False
    paths = list(folders) + [path for row in files for path in row[0]]
    if len(paths) > 100 or len(paths) != len(set(paths)):
        return False
    return all("/" not in path or path.rsplit("/", 1)[0] in folders for path in paths)


def random_tree(dice, names=("a", "b", "c"), most=12, depth=4, extra=()):
    """Return a tree with at most so many paths; extra names may come in it, too."""
    folders, files, taken = [], [], []
    for _ in range(dice.randint(0, most)):
        home = dice.choice([""] + folders)
        if home.count("/") >= depth - 1:
            continue
        name = dice.choice(tuple(names) + tuple(extra))
        path = name if home == "" else home + "/" + name
        if path in taken:
            continue
        taken.append(path)
        turn = dice.randrange(5)
        if turn < 2:
            folders.append(path)
        elif turn == 2 and files:
            dice.choice(files)[0].append(path)
        else:
            words = tuple(dice.choice(("x", "y", "zo", "word")) for _ in range(dice.randint(0, 3)))
            files.append(([path], words))
    rows = sorted((tuple(sorted(paths)), words) for paths, words in files)
    return tuple(sorted(folders)), tuple(rows)


def random_call(dice, paths, words=("x", "y")):
    kind = dice.choice(tuple(SHAPES))
    return (kind,) + tuple(dice.choice(paths) if sign == "p" else dice.choice(words) for sign in SHAPES[kind])


def unchanged(test, function, *arguments):
    """Call a function, see that it leaves its arguments alone and answers twice the same, and return the answer."""
    kept = copy.deepcopy(arguments)
    answer = function(*arguments)
    test.assertEqual(arguments, kept)
    again = function(*arguments)
    test.assertEqual(again, answer)
    test.assertEqual(type(again), type(answer))
    if isinstance(answer, list):
        answer_before = copy.deepcopy(answer)
        again.append("more")
        again.reverse()
        test.assertEqual(function(*arguments), answer_before)
    return answer

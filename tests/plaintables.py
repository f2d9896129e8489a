"""Tables once more, in another way than in the package: what is right, what they show, and what users do to them."""

import random

from helpers import random_call, right_name, right_word

USERS = ("a", "b", "c", "d")
RIGHTS = tuple(one + two + three + four for one in "r-" for two in "w-" for three in "r-" for four in "w-")


def is_number(candidate):
    return type(candidate) is int and 0 <= candidate <= 15


def right_user(candidate):
    return type(candidate) is str and candidate in USERS


def right_rights(candidate):
    return type(candidate) is str and candidate in RIGHTS


def right_entry(candidate):
    return type(candidate) is tuple and len(candidate) == 2 and bool(right_name(candidate[0])) and is_number(candidate[1])


def right_node(candidate):
    if type(candidate) is not tuple or len(candidate) != 5:
        return False
    number, kind, owner, rights, body = candidate
    if not is_number(number) or not right_user(owner) or not right_rights(rights):
        return False
    if type(body) is not tuple or len(body) > 16:
        return False
    if kind == "file":
        return all(right_word(word) for word in body)
    if kind != "folder" or not all(right_entry(entry) for entry in body):
        return False
    names = [name for name, _ in body]
    return names == sorted(set(names))


def right_table(candidate):
    if type(candidate) is not tuple or not all(right_node(node) for node in candidate):
        return False
    numbers = [node[0] for node in candidate]
    if not numbers or numbers != sorted(set(numbers)) or candidate[0][:2] != (0, "folder"):
        return False
    kinds = {node[0]: node[1] for node in candidate}
    led = [number for node in candidate if node[1] == "folder" for _, number in node[4]]
    if 0 in led or set(led) != set(numbers[1:]):
        return False
    if any(kinds[number] == "folder" and led.count(number) > 1 for number in led):
        return False
    bodies = {node[0]: node[4] for node in candidate if node[1] == "folder"}
    met, last = {0}, set()
    while met != last:
        last = met
        met = met | {number for folder in met if folder in bodies for _, number in bodies[folder]}
    return met == set(numbers)


def plain_shown(table):
    """Return the tree of a table, also if it is too large."""
    nodes = {node[0]: node for node in table}
    folders, files = [], {}

    def grow(number, path):
        if nodes[number][1] == "file":
            files.setdefault(number, []).append(path)
            return
        if path:
            folders.append(path)
        for name, other in nodes[number][4]:
            grow(other, path + "/" + name if path else name)

    grow(0, "")
    return (tuple(sorted(folders)),
            tuple(sorted((tuple(sorted(paths)), nodes[number][4]) for number, paths in files.items())))


class Stop(Exception):
    """The result of a call is found."""


class Desk:
    """A table while a user makes one call; granted is True if the user gets each right that is asked for."""

    def __init__(self, table, user, granted=False):
        self.nodes = {number: [kind, owner, rights, dict(body) if kind == "folder" else list(body)]
                      for number, kind, owner, rights, body in table}
        self.user, self.granted, self.asked = user, granted, []

    def table(self):
        return tuple((number, kind, owner, rights, tuple(sorted(body.items())) if kind == "folder" else tuple(body))
                     for number, (kind, owner, rights, body) in sorted(self.nodes.items()))

    def ask(self, number, sign):
        self.asked.append((number, sign))
        _, owner, rights, _ = self.nodes[number]
        half = rights[:2] if owner == self.user else rights[2:]
        if sign not in half and not self.granted:
            raise Stop("denied")

    def walk(self, path):
        """Return the number of the folder that contains the last name of a path."""
        here = 0
        names = path.split("/")
        for at, name in enumerate(names):
            self.ask(here, "r")
            if at + 1 == len(names):
                return here
            if name not in self.nodes[here][3]:
                raise Stop("missing")
            here = self.nodes[here][3][name]
            if self.nodes[here][0] == "file":
                raise Stop("not folder")
        return None

    def at(self, home, path):
        return self.nodes[home][3].get(path.split("/")[-1])

    def new(self, home, path, kind, body):
        free = [number for number in range(1, 16) if number not in self.nodes]
        if not free or len(self.nodes[home][3]) == 16:
            raise Stop("full")
        self.nodes[free[0]] = [kind, self.user, "rwr-", body]
        self.nodes[home][3][path.split("/")[-1]] = free[0]

    def forget(self, number):
        if all(number not in body.values() for kind, _, _, body in self.nodes.values() if kind == "folder"):
            del self.nodes[number]

    def make(self, call):
        kind, paths = call[0], call[1:]
        if kind in ("write", "append"):
            paths = paths[:1]
        homes = [self.walk(path) for path in paths]
        written = {"write": [], "append": [], "copy": homes[1:], "link": homes[1:]}.get(kind, homes)
        for home in written:
            self.ask(home, "w")
        first = self.at(homes[0], paths[0])
        if kind in ("folder", "file"):
            if first is not None:
                raise Stop("exists")
            self.new(homes[0], paths[0], kind, {} if kind == "folder" else [])
            return
        if first is None:
            raise Stop("missing")
        is_folder = self.nodes[first][0] == "folder"
        if kind == "drop":
            if not is_folder:
                raise Stop("not folder")
            if self.nodes[first][3]:
                raise Stop("not empty")
        elif kind == "move":
            self.move(first, is_folder, homes, paths)
            return
        elif is_folder:
            raise Stop("is folder")
        if kind in ("remove", "drop"):
            del self.nodes[homes[0]][3][paths[0].split("/")[-1]]
            self.forget(first)
        elif kind in ("write", "append"):
            self.ask(first, "w")
            words = [call[2]] if kind == "write" else self.nodes[first][3] + [call[2]]
            if len(words) > 16:
                raise Stop("full")
            self.nodes[first][3] = words
        else:
            self.double(kind, first, homes, paths)

    def double(self, kind, first, homes, paths):
        if kind == "copy":
            self.ask(first, "r")
        if self.at(homes[1], paths[1]) is not None:
            raise Stop("exists")
        if kind == "copy":
            self.new(homes[1], paths[1], "file", list(self.nodes[first][3]))
            return
        if len(self.nodes[homes[1]][3]) == 16:
            raise Stop("full")
        self.nodes[homes[1]][3][paths[1].split("/")[-1]] = first

    def move(self, first, is_folder, homes, paths):
        second = self.at(homes[1], paths[1])
        if is_folder and paths[1].startswith(paths[0] + "/"):
            raise Stop("inside")
        if first == second:
            return
        if second is not None:
            kind, _, _, body = self.nodes[second]
            if is_folder and kind == "file":
                raise Stop("not folder")
            if is_folder and body:
                raise Stop("not empty")
            if not is_folder and kind == "folder":
                raise Stop("is folder")
        if second is None and homes[0] != homes[1] and len(self.nodes[homes[1]][3]) == 16:
            raise Stop("full")
        del self.nodes[homes[0]][3][paths[0].split("/")[-1]]
        self.nodes[homes[1]][3][paths[1].split("/")[-1]] = first
        if second is not None:
            self.forget(second)


def plain_act(table, user, call, granted=False):
    """Return the result of a call by a user, the table after it, and the rights that were asked for."""
    desk = Desk(table, user, granted)
    try:
        desk.make(call)
    except Stop as stop:
        return str(stop), table, desk.asked
    return "ok", desk.table(), desk.asked


def random_table(dice, most=10, names=("a", "b", "c"), rights=RIGHTS, users=USERS, words=("x", "y", "zo")):
    """Return a table of at most so many nodes beside the root folder."""
    left = list(range(1, 16))
    dice.shuffle(left)
    nodes = {0: ["folder", {}]}
    for _ in range(dice.randint(0, most)):
        home = dice.choice([number for number in nodes if nodes[number][0] == "folder"])
        name = dice.choice(names)
        files = [number for number in nodes if nodes[number][0] == "file"]
        if name in nodes[home][1]:
            continue
        if files and dice.random() < 0.25:
            nodes[home][1][name] = dice.choice(files)
            continue
        number = left.pop()
        kind = dice.choice(("folder", "file"))
        nodes[number] = [kind, {} if kind == "folder" else [dice.choice(words) for _ in range(dice.choice((0, 1, 2, 5)))]]
        nodes[home][1][name] = number
    return tuple((number, kind, dice.choice(users), dice.choice(rights),
                  tuple(sorted(body.items())) if kind == "folder" else tuple(body))
                 for number, (kind, body) in sorted(nodes.items()))


def some_tables(seed, many, **more):
    dice = random.Random(seed)
    return [random_table(dice, **more) for _ in range(many)]


def random_script(dice, table, user, paths):
    """Return a script of up to four calls most of which succeed."""
    script = []
    for _ in range(dice.randrange(1, 5)):
        for _ in range(dice.choice((1, 20))):
            call = random_call(dice, paths)
            result, after, _ = plain_act(table, user, call)
            if result == "ok":
                table = after
                break
        script.append(call)
    return tuple(script)

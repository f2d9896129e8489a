"""The calls once more, in another way than in the package: a tree as one dict from paths to files and folders."""


class Plain:
    def __init__(self, tree):
        self.at = {path: "folder" for path in tree[0]}
        self.words = {}
        for number, (paths, words) in enumerate(tree[1]):
            self.words[number] = words
            for path in paths:
                self.at[path] = number

    def tree(self):
        files = {}
        for path, what in self.at.items():
            if what != "folder":
                files.setdefault(what, []).append(path)
        rows = sorted((tuple(sorted(paths)), self.words[number]) for number, paths in files.items())
        return tuple(sorted(path for path in self.at if self.at[path] == "folder")), tuple(rows)

    def new_file(self, path, words):
        number = len(self.words) + 1000
        self.words[number] = words
        self.at[path] = number

    def has_entries(self, folder):
        return any(path.startswith(folder + "/") for path in self.at)

    def way(self, path):
        for end, sign in enumerate(path):
            if sign == "/":
                what = self.at.get(path[:end])
                if what is None:
                    return "missing"
                if what != "folder":
                    return "not folder"
        return "ok"

    def make(self, call):
        paths = [call[1]] + ([call[2]] if call[0] in ("copy", "link", "move") else [])
        for path in paths:
            if self.way(path) != "ok":
                return self.way(path)
        first = self.at.get(call[1])
        if call[0] in ("folder", "file"):
            if first is not None:
                return "exists"
            if call[0] == "folder":
                self.at[call[1]] = "folder"
            else:
                self.new_file(call[1], ())
            return "ok"
        if first is None:
            return "missing"
        if call[0] == "drop":
            if first != "folder":
                return "not folder"
            if self.has_entries(call[1]):
                return "not empty"
            del self.at[call[1]]
            return "ok"
        if call[0] == "move":
            return self.move_folder(*call[1:]) if first == "folder" else self.move_file(*call[1:])
        if first == "folder":
            return "is folder"
        return self.with_file(call, first)

    def with_file(self, call, first):
        if call[0] == "remove":
            del self.at[call[1]]
        elif call[0] == "write":
            self.words[first] = (call[2],)
        elif call[0] == "append":
            self.words[first] += (call[2],)
        elif call[2] in self.at:
            return "exists"
        elif call[0] == "link":
            self.at[call[2]] = first
        else:
            self.new_file(call[2], self.words[first])
        return "ok"

    def move_folder(self, one, other):
        if other.startswith(one + "/"):
            return "inside"
        if one == other:
            return "ok"
        if other in self.at:
            if self.at[other] != "folder":
                return "not folder"
            if self.has_entries(other):
                return "not empty"
        moved = {}
        for path, what in self.at.items():
            if path == one or path.startswith(one + "/"):
                moved[other + path[len(one):]] = what
            elif path != other:
                moved[path] = what
        self.at = moved
        return "ok"

    def move_file(self, one, other):
        if self.at.get(other) == "folder":
            return "is folder"
        if self.at.get(other) != self.at[one]:
            self.at[other] = self.at.pop(one)
        return "ok"


def plain_call(tree, call):
    """Return the result of a call and the tree after it."""
    plain = Plain(tree)
    result = plain.make(call)
    return result, plain.tree()


def plain_run(tree, script):
    """Return the tuple (done, result, tree) of a script."""
    plain = Plain(tree)
    done, result = 0, "ok"
    for call in script:
        result = plain.make(call)
        if result != "ok":
            break
        done += 1
    return done, result, plain.tree()

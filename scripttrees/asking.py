"""States of trees of which only that is known what calls looked at."""

from scripttrees.building import built_tree, fresh_name, merged, with_own_words
from scripttrees.names import FRESH_NAME, joined
from scripttrees.states import File, Folder, State

KINDS = ("none", "file", "folder")


class Answers:
    """What is known of a tree: the answers to the questions that were asked of it.

    For each question in turn, picks has a list of the number of the answer and the number of all possible answers.
    A question behind the last of them gets the first answer.
    """

    def __init__(self, picks):
        self.picks = picks
        self.asked = 0
        self.kinds = {}
        self.names = {"": []}
        self.others = {}
        self.leaders = {}
        self.parted = []

    def pick(self, many):
        """Return the number of the answer to the next question."""
        if self.asked == len(self.picks):
            self.picks.append([0, many])
        self.asked += 1
        return self.picks[self.asked - 1][0]

    def kind(self, folder, name):
        """Return what stands in a folder under a name."""
        path = joined(folder, name)
        if path not in self.kinds:
            self.learn(folder, name, path)
        return self.kinds[path]

    def learn(self, folder, name, path):
        """Ask what stands in a folder under a name that was not asked for."""
        kind = "none"
        if folder not in self.others or self.others[folder][0]:
            kind = KINDS[self.pick(len(KINDS))]
        self.kinds[path] = kind
        self.names[folder].append(name)
        if kind == "folder":
            self.names[path] = []
        if kind == "file":
            self.leaders[path] = path

    def has_one(self, folder, names):
        """Return whether something stands in a folder under one of some names that were asked for."""
        return any([self.kinds[joined(folder, name)] != "none" for name in names])

    def has_others(self, folder):
        """Return whether a folder has an entry with a name that was not asked for."""
        names = self.names[folder]
        if folder in self.others:
            has, many = self.others[folder]
            # An entry that was met since may have been the one that was meant.
            if not self.has_one(folder, names[many:]):
                return has
        has = self.pick(2) == 1
        self.others[folder] = (has, len(names))
        return has

    def has_more(self, folder, seen):
        """Return whether a folder has an entry with a name that is not among some that were asked for."""
        unseen = [name for name in self.names[folder] if name not in seen]
        return self.has_one(folder, unseen) or self.has_others(folder)

    def are_parted(self, pair, one, other):
        """Return whether two paths lead to the same two files as a pair of paths."""
        files = sorted([self.leaders[pair[0]], self.leaders[pair[1]]])
        return files == sorted([self.leaders[one], self.leaders[other]])

    def are_same(self, one, other):
        """Return whether two paths lead to the same file."""
        if self.leaders[one] == self.leaders[other]:
            return True
        if any([self.are_parted(pair, one, other) for pair in self.parted]):
            return False
        if self.pick(2) == 0:
            self.parted.append((one, other))
            return False
        self.leaders = merged(self.leaders, one, other)
        return True

    def known_folders(self):
        """Return the list of the paths at which folders stand as far as is known."""
        return [path for path in self.kinds if self.kinds[path] == "folder"]

    def compare_files(self, path):
        """Ask of the file at a path whether it is the same as each other file that was met."""
        for other in list(self.leaders):
            self.are_same(path, other)

    def tree(self):
        """Return a tree that gives these answers, with as few paths as possible."""
        folders = self.known_folders()
        leaders = dict(self.leaders)
        for folder in self.others:
            has, many = self.others[folder]
            if has and not self.has_one(folder, self.names[folder][many:]):
                path = joined(folder, FRESH_NAME)
                leaders[path] = path
        return built_tree(folders, leaders)

    def marked_tree(self, with_further_paths):
        """Return a tree that gives these answers, in which each file and folder can be told from all others.

        Each file has a word of its own and, if it is asked for, a further path that no call has. Each folder that may
        have further entries has one with a name of its own. Files are the same only if that was an answer.
        """
        folders = self.known_folders()
        for folder in self.known_folders():
            if folder not in self.others or self.others[folder][0]:
                folders.append(joined(folder, fresh_name(len(folders))))
        leaders = dict(self.leaders)
        if with_further_paths:
            firsts = sorted(set(list(leaders.values())))
            for at in range(len(firsts)):
                leaders[fresh_name(at)] = firsts[at]
        return with_own_words(built_tree(folders, leaders))


class AskedState(State):
    """The tree at one moment of a script, of which at the beginning only the answers are known."""

    def __init__(self, answers):
        super().__init__(Folder())
        self.answers = answers
        # The paths that files and folders had at the beginning, for those that were there.
        self.origins = {self.root: ""}

    def entry(self, folder, name):
        """Return the File or the Folder with a name in a folder, or None."""
        if name not in folder.entries:
            folder.entries[name] = self.first_entry(folder, name)
        return folder.entries[name]

    def first_entry(self, folder, name):
        """Return what stood in a folder under a name at the beginning."""
        if folder not in self.origins:
            return None
        kind = self.answers.kind(self.origins[folder], name)
        if kind == "none":
            return None
        found = Folder() if kind == "folder" else File(())
        self.origins[found] = joined(self.origins[folder], name)
        return found

    def is_empty(self, folder):
        """Return whether a folder has no entry."""
        if not super().is_empty(folder):
            return False
        return folder not in self.origins or not self.answers.has_more(self.origins[folder], folder.entries)

    def are_same(self, one, other):
        """Return whether two paths that lead to these files lead to the same file."""
        if one == other:
            return True
        if one not in self.origins or other not in self.origins:
            return False
        return self.answers.are_same(self.origins[one], self.origins[other])

    def changed_paths(self):
        """Return the list of the paths at the beginning of the files whose words were changed."""
        # Words are not known at the beginning, and no call makes a file that has some empty again.
        return [path for found, path in self.origins.items() if isinstance(found, File) and found.words]

"""What calls do to a state."""

from scripttrees.names import end_of, lies_below, parent
from scripttrees.states import File, Folder


def walk(state, path):
    """Walk to the folder that contains the last name of a path; return the result and that folder."""
    folder = state.root
    if not state.allows(folder, "r"):
        return "denied", None
    way = parent(path)
    if way == "":
        return "ok", folder
    for name in way.split("/"):
        folder = state.entry(folder, name)
        if folder is None:
            return "missing", None
        if not isinstance(folder, Folder):
            return "not folder", None
        if not state.allows(folder, "r"):
            return "denied", None
    return "ok", folder


def make_new(state, end, new):
    """Put something new at the end of a path where nothing is."""
    folder, name = end
    if state.entry(folder, name) is not None:
        return "exists"
    folder.entries[name] = new
    return "ok"


def make_folder(state, _, ends):
    """Make an empty folder."""
    return make_new(state, ends[0], Folder())


def make_file(state, _, ends):
    """Make an empty file."""
    return make_new(state, ends[0], File(()))


def file_at(state, end):
    """Return the result of looking for a file at the end of a path, and the file."""
    folder, name = end
    found = state.entry(folder, name)
    if found is None:
        return "missing", None
    if isinstance(found, Folder):
        return "is folder", None
    return "ok", found


def file_to_change(state, end):
    """Return the result of looking for a file whose words are to be changed, and the file."""
    result, found = file_at(state, end)
    if result == "ok" and not state.allows(found, "w"):
        return "denied", None
    return result, found


def write(state, call, ends):
    """Make a word the only word of a file."""
    result, found = file_to_change(state, ends[0])
    if result == "ok":
        found.words = (call[2],)
    return result


def append_word(state, call, ends):
    """Put a word behind the last word of a file."""
    result, found = file_to_change(state, ends[0])
    if result == "ok":
        found.words = found.words + (call[2],)
    return result


def copy_file(state, _, ends):
    """Make a new file with the same words."""
    result, found = file_at(state, ends[0])
    if result != "ok":
        return result
    if not state.allows(found, "r"):
        return "denied"
    return make_new(state, ends[1], File(found.words))


def link(state, _, ends):
    """Make a further path of a file."""
    result, found = file_at(state, ends[0])
    if result != "ok":
        return result
    return make_new(state, ends[1], found)


def remove_path(state, _, ends):
    """Take a path of a file away."""
    result = file_at(state, ends[0])[0]
    if result == "ok":
        take_away(ends[0])
    return result


def drop(state, _, ends):
    """Take an empty folder away."""
    folder, name = ends[0]
    found = state.entry(folder, name)
    if found is None:
        return "missing"
    if not isinstance(found, Folder):
        return "not folder"
    if not state.is_empty(found):
        return "not empty"
    take_away(ends[0])
    return "ok"


def take_away(end):
    """Leave nothing at the end of a path."""
    folder, name = end
    folder.entries[name] = None


def move(state, call, ends):
    """Move a file or a folder."""
    folder, name = ends[0]
    moved = state.entry(folder, name)
    if moved is None:
        return "missing"
    if isinstance(moved, Folder):
        return move_folder(state, call, ends)
    return move_file(state, ends)


def move_folder(state, call, ends):
    """Move a folder with all that lies below it."""
    if lies_below(call[2], call[1]):
        return "inside"
    if call[1] == call[2]:
        return "ok"
    folder, name = ends[1]
    target = state.entry(folder, name)
    if target is not None and not isinstance(target, Folder):
        return "not folder"
    if target is not None and not state.is_empty(target):
        return "not empty"
    bring(state, ends)
    return "ok"


def move_file(state, ends):
    """Move one path of a file."""
    folder, name = ends[0]
    moved = state.entry(folder, name)
    folder, name = ends[1]
    target = state.entry(folder, name)
    if isinstance(target, Folder):
        return "is folder"
    # A path of the same file stays beside the one that was to be moved.
    if target is None or not state.are_same(moved, target):
        bring(state, ends)
    return "ok"


def bring(state, ends):
    """Put what is at the end of the first path to the end of the second one."""
    folder, name = ends[0]
    moved = state.entry(folder, name)
    take_away(ends[0])
    folder, name = ends[1]
    folder.entries[name] = moved


STEPS = {
    "folder": make_folder,
    "file": make_file,
    "write": write,
    "append": append_word,
    "copy": copy_file,
    "link": link,
    "remove": remove_path,
    "drop": drop,
    "move": move,
}


# For which paths of a call the folder is changed that contains, or would contain, the last name.
CHANGED_FOLDERS = {
    "folder": (0,),
    "file": (0,),
    "write": (),
    "append": (),
    "copy": (1,),
    "link": (1,),
    "remove": (0,),
    "drop": (0,),
    "move": (0, 1),
}


def make_call(state, call, paths):
    """Make a call with some paths, change the state if it succeeds, and return its result."""
    ends = []
    for path in paths:
        result, folder = walk(state, path)
        if result != "ok":
            return result
        ends.append((folder, end_of(path)))
    for at in CHANGED_FOLDERS[call[0]]:
        folder = ends[at][0]
        if not state.allows(folder, "w"):
            return "denied"
    step = STEPS[call[0]]
    return step(state, call, ends)

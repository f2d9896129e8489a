"""The errors of the package, one class for each kind of failure."""


class ScriptError(ValueError):
    """Something that was passed is not as it has to be."""


class InvalidPath(ScriptError):
    """A value is not a path, or not a path or "" where "" is the root folder."""


class InvalidTree(ScriptError):
    """A value is not a tree within the bounds."""


class NoFile(ScriptError):
    """A path does not lead to a file."""


class NoFolder(ScriptError):
    """A path does not lead to a folder."""


class InvalidCall(ScriptError):
    """A value is not a call."""


class InvalidScript(ScriptError):
    """A value is not a script, or not one that can be judged."""


class ParseError(ScriptError):
    """A text or a list of lines stands for nothing."""


class InvalidFacts(ScriptError):
    """A value is not facts, or the facts are about too many paths."""


class InvalidFact(ScriptError):
    """A value is not a fact, or the fact is about too many paths."""


class InvalidGroup(ScriptError):
    """A value is not a group of scripts that can be judged together."""


class InvalidOutcome(ScriptError):
    """A value is not an outcome."""


class InvalidNumber(ScriptError):
    """A value is not a number of a call or of a node."""


class InvalidOrder(ScriptError):
    """A value is not an order of the calls of two scripts."""


class InvalidTable(ScriptError):
    """A value is not a table."""


class InvalidUser(ScriptError):
    """A value is not a user."""


class TooLarge(ScriptError):
    """A tree is too large for a table."""


class InvalidSign(ScriptError):
    """A value is not a sign of rights."""


class InvalidRights(ScriptError):
    """A value is not rights."""


class InvalidDisk(ScriptError):
    """A value is not a disk."""


class NoNode(ScriptError):
    """A slot of a disk has no node."""


class InvalidMany(ScriptError):
    """A value is not a number of blocks."""


class InvalidSize(ScriptError):
    """A value is not a size of a disk."""


class NoRoom(ScriptError):
    """The free blocks are too few."""


class Unsound(ScriptError):
    """A disk has faults."""


class InvalidWrites(ScriptError):
    """A value is not a list of writes for the disk."""


class InvalidDealings(ScriptError):
    """A value is not dealings."""


class InvalidMode(ScriptError):
    """A value is not a mode."""


class TooMany(ScriptError):
    """There are too many writes of contents at once."""


class InvalidFlushes(ScriptError):
    """A value is not flushes for the script."""


class InvalidName(ScriptError):
    """A value is not a name."""


class Exists(ScriptError):
    """A snapshot has the name already."""


class NoSnapshot(ScriptError):
    """No snapshot has the name."""


class InvalidLimits(ScriptError):
    """A value is not limits."""


class NothingToUndo(ScriptError):
    """There is nothing to undo or to redo."""

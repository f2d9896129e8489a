"""A user at work, who can undo and redo."""

from scripttrees.acting import act_on, check_granting, granted
from scripttrees.calls import check_call
from scripttrees.errors import NothingToUndo
from scripttrees.tables import check_table, check_user
from scripttrees.tablestates import TableState
from scripttrees.texts import call_text


class Session:
    """A table, and a user who makes calls on it."""

    def __init__(self, table, user):
        check_table(table)
        check_user(user)
        self.nodes = table
        self.actor = user
        self.lines = []
        # The tables and users before each step that can be undone, and behind each one that can be redone.
        self.past = []
        self.ahead = []

    def table(self):
        """Return the present table."""
        return self.nodes

    def user(self):
        """Return the present user."""
        return self.actor

    def log(self):
        """Return the list of the users, texts and results of all calls so far."""
        return list(self.lines)

    def step_to(self, table, user):
        """Go on to a table and a user, so that it can be undone."""
        self.past.append((self.nodes, self.actor))
        self.ahead = []
        self.nodes = table
        self.actor = user

    def do(self, call):
        """Make a call, and return its result."""
        check_call(call)
        result, after = act_on(TableState(self.nodes, self.actor), self.nodes, call)
        self.lines.append((self.actor, call_text(call), result))
        if result == "ok":
            self.step_to(after, self.actor)
        return result

    def grant(self, path, rights):
        """Change the rights of the node to which a path leads, and return the result."""
        check_granting(path, rights)
        result, after = granted(self.nodes, self.actor, path, rights)
        if result == "ok":
            self.step_to(after, self.actor)
        return result

    def become(self, user):
        """Go on as another user, and return the one before."""
        check_user(user)
        before = self.actor
        self.step_to(self.nodes, user)
        return before

    def swap(self, left, kept):
        """Go to the last of the tables and users that are left, and keep the present ones."""
        if not left:
            raise NothingToUndo("there is nothing to undo or to redo")
        kept.append((self.nodes, self.actor))
        self.nodes, self.actor = left.pop()

    def undo(self):
        """Revert the last do, grant or become that changed something or could have."""
        self.swap(self.past, self.ahead)

    def redo(self):
        """Do again what was undone last."""
        self.swap(self.ahead, self.past)

    def copy(self):
        """Return an independent session that is like this one."""
        other = Session(self.nodes, self.actor)
        other.lines = list(self.lines)
        other.past = list(self.past)
        other.ahead = list(self.ahead)
        return other

    def __eq__(self, other):
        """Return whether other is a session with the same table and the same user."""
        return isinstance(other, Session) and self.nodes == other.nodes and self.actor == other.actor

    def __len__(self):
        """Return the number of the nodes of the table."""
        return len(self.nodes)

"""The desk: stories that are edited, and promises that each edit keeps."""

from tilesregrow.entries import item_of, item_of_part, lines_edited, parts_of
from tilesregrow.errors import BadName, BadNumber, BadText, NoName, NotKept, NothingToRedo, NothingToUndo, TakenName
from tilesregrow.kinds import is_integer
from tilesregrow.pledges import is_about, pledge_of, promise_renamed, verdict_on
from tilesregrow.story import played
from tilesregrow.texts import is_name, lines_of


class State:
    """What lies on a desk at one time: the tuples of its items and of its promises; it never changes."""

    def __init__(self, stock, promises):
        self.stock = stock
        self.promises_made = promises

    def names(self):
        return tuple([item.name for item in self.stock])

    def item_called(self, name):
        """The item with this name."""
        if not isinstance(name, str):
            raise BadName(name)
        for item in self.stock:
            if item.name == name:
                return item
        raise NoName(name)

    def with_item(self, name, item):
        """The state with another item in the place of the one with this name."""
        stock = tuple([item if other.name == name else other for other in self.stock])
        return State(stock, self.promises_made)

    def with_promises(self, promises):
        return State(self.stock, tuple(promises))

    def items_of(self, pledge):
        """The list of the items that a pledge is about."""
        return [self.item_called(name) for name in pledge.about]

    def verdict(self, promise):
        """The pair of whether a promise is kept and the witness."""
        pledge = pledge_of(promise)
        return verdict_on(pledge, self.items_of(pledge))

    def check_promises(self):
        """All promises are kept."""
        for promise in self.promises_made:
            kept, witness = self.verdict(promise)
            if not kept:
                raise NotKept(promise, witness)


def state_behind_put(state, parts):
    """The state with the items of a file, which take the places of those with their names or come behind the last."""
    stock = [item_of_part(parts[item.name]) if item.name in parts else item for item in state.stock]
    known = state.names()
    stock.extend([item_of_part(parts[name]) for name in parts if name not in known])
    return State(tuple(stock), state.promises_made)


class Desk:
    """A desk with the items of a file.

    What it has now, what it had ahead of each edit that can be taken back, and what it had behind each edit that can
    be done again are states; within an attempt or a trial the latter two are those of its own edits.
    """

    def __init__(self, text=""):
        self._now = state_behind_put(State((), ()), parts_of(text))
        self._past = ()
        self._future = ()
        self._depth = 0

    def lines(self):
        """The file of all items."""
        return "".join([item.file_text() for item in self._now.stock])

    def item_names(self):
        """The tuple of the names of all items."""
        return self._now.names()

    def get_story(self, name):
        """The story of an item."""
        return self._now.item_called(name).story

    def get_world(self, name):
        """The world of an item, played anew."""
        return played(self.get_story(name))

    def put(self, text):
        """The items of a file come."""
        self._change(state_behind_put(self._now, parts_of(text)))

    def edit(self, name, number, text):
        """The lines of a text come in the place of a line of an item, or behind its last one."""
        lines = self._lines_of_item(name, text)
        if not is_integer(number) or not 1 <= number <= len(lines) + 1:
            raise BadNumber("line", number)
        self._edit_lines(name, lines, number, text)

    def add(self, name, text):
        """The lines of a text come behind the last one of an item."""
        lines = self._lines_of_item(name, text)
        self._edit_lines(name, lines, len(lines) + 1, text)

    def _lines_of_item(self, name, text):
        """The lines of an item that is to be edited with a text."""
        if not isinstance(name, str):
            raise BadName(name)
        if not isinstance(text, str):
            raise BadText(0, 0)
        return lines_of(self.get_story(name).text)

    def _edit_lines(self, name, lines, number, text):
        item = item_of(name, lines_edited(lines, number, text), 0)
        self._change(self._now.with_item(name, item))

    def drop(self, name):
        """The item goes, and all promises that name it."""
        self._now.item_called(name)
        stock = [item for item in self._now.stock if item.name != name]
        promises = [promise for promise in self._now.promises_made if not is_about(promise, name)]
        self._change(State(tuple(stock), tuple(promises)))

    def rename(self, name, new):
        """The item has a new name, also in promises."""
        if not is_name(new):
            raise BadName(new)
        item = self._now.item_called(name)
        if new in self._now.names():
            raise TakenName(new)
        promises = [promise_renamed(promise, name, new) for promise in self._now.promises_made]
        self._change(self._now.with_item(name, item.called(new)).with_promises(promises))

    def keep(self, promise):
        """The promise is made."""
        self._now.items_of(pledge_of(promise))
        promises = self._now.promises_made
        if promise not in promises:
            promises = (*promises, promise)
        self._change(self._now.with_promises(promises))

    def release(self, promise):
        """The promise is made no more."""
        if not isinstance(promise, str):
            raise BadText(0, 0)
        if promise not in self._now.promises_made:
            raise NoName(promise)
        self._change(self._now.with_promises([other for other in self._now.promises_made if other != promise]))

    def promises(self):
        """The tuple of the promises, in the order in which they were made."""
        return self._now.promises_made

    def holds(self, promise):
        """(True, None) if a promise is kept, or would be, otherwise (False, witness)."""
        return self._now.verdict(promise)

    def broken(self):
        """The tuple of the pairs (promise, witness) of the promises that are not kept."""
        verdicts = [(promise, self._now.verdict(promise)) for promise in self._now.promises_made]
        return tuple([(promise, witness) for promise, (kept, witness) in verdicts if not kept])

    def _change(self, state):
        """An edit, behind which the desk has this state."""
        if self._depth == 0:
            state.check_promises()
        self._past = (*self._past, self._now)
        self._future = ()
        self._show(state)

    def _show(self, state):
        """The desk has this state now."""
        for item in self._now.stock:
            # Many items may wait to be brought back, and their worlds are large.
            if item not in state.stock:
                item.forget_world()
        self._now = state

    def undo(self):
        """The last edit is taken back."""
        if not self._past:
            raise NothingToUndo()
        state = self._past[-1]
        self._past = self._past[:-1]
        self._future = (*self._future, self._now)
        self._show(state)

    def redo(self):
        """The edit that was taken back last is done again."""
        if not self._future:
            raise NothingToRedo()
        state = self._future[-1]
        self._future = self._future[:-1]
        self._past = (*self._past, self._now)
        self._show(state)

    def _tried(self, action):
        """What an action returns, and the state behind it; the desk is then as it was, however the action ends."""
        now, past, future, depth = self._now, self._past, self._future, self._depth
        self._past, self._future, self._depth = (), (), depth + 1
        try:
            result = action(self)
            behind = self._now
        finally:
            self._now, self._past, self._future, self._depth = now, past, future, depth
        return (result, behind)

    def attempt(self, action):
        """All edits of an action as one edit; returns what the action returns."""
        result, behind = self._tried(action)
        self._change(behind)
        return result

    def trial(self, action):
        """All edits of an action are given back; returns what the action returns."""
        result, _ = self._tried(action)
        return result

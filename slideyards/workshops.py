"""Layer 13: workshops, which keep spoken yards, and promises about their stands."""

from slideyards.basics import frozen
from slideyards.counts import count_of
from slideyards.errors import (BadName, BadRow, BadText, NoName, NothingToRedo, NothingToUndo,
                               NotKept, TakenName)
from slideyards.kinds import leads, settle
from slideyards.texts import Spoken, is_name, promise_of, promise_text, spoken_of, text_of
from slideyards.yards import is_stand_row

MOST_THING = 99


class State:
    """What a workshop keeps at one time: spoken yards, and promises as promise_of tells them."""

    def __init__(self, yards, promised):
        self.yards = frozen(yards)
        self.promised = frozen(promised)


def place_of(names, name):
    """The place of a name among names; NoName for any value that is none of them."""
    if not isinstance(name, str) or name not in names:
        raise NoName(name)
    return names.index(name)


def yard_of(state, name):
    """The spoken yard of a name."""
    return state.yards[place_of([spoken.name for spoken in state.yards], name)]


def stand_of_name(spoken, name):
    """The stand of a name of a spoken yard."""
    return spoken.stands[place_of([known for known, _ in spoken.stands], name)][1]


def asked(state, promise):
    """The yard and the two stands that a promise is about."""
    name, _, one, other = promise
    spoken = yard_of(state, name)
    return spoken.yard, stand_of_name(spoken, one), stand_of_name(spoken, other)


def looked_at(state, promise):
    """The pair of whether a promise is kept, and its witness."""
    yard, one, other = asked(state, promise)
    witness = settle(yard, one, other)
    return leads(witness) == (promise[1] == "to"), witness


def check_promises(before, state):
    """Takes states alone in which all promises are kept; all are in the one before."""
    for promise in state.promised:
        # What is asked about as before needs no new search.
        if promise in before.promised and asked(state, promise) == asked(before, promise):
            continue
        is_kept, witness = looked_at(state, promise)
        if not is_kept:
            raise NotKept(promise_text(promise), witness)


def are_alike(one, other):
    """Whether two states have the same texts and promises, in the same order."""
    texts = [[text_of(spoken) for spoken in state.yards] for state in (one, other)]
    return texts[0] == texts[1] and one.promised == other.promised


def replaced(rows, place, row):
    """The rows with another one at a place, or behind all others."""
    return rows[:place] + (row,) + rows[place + 1:]


def with_yard(yards, spoken):
    """The spoken yards with one in the place of that of its name, or behind all others."""
    names = [known.name for known in yards]
    place = names.index(spoken.name) if spoken.name in names else len(names)
    return replaced(yards, place, spoken)


class Workshop:
    """Spoken yards and promises, with edits that can be undone and tried."""

    def __init__(self, text=""):
        self._state = State(spoken_of(text), ())
        self._past = ()
        self._future = ()
        self._within = 0

    def text(self):
        """The text of all yards."""
        return "".join([text_of(spoken) for spoken in self._state.yards])

    def names(self):
        """The names of all yards."""
        return tuple([spoken.name for spoken in self._state.yards])

    def promises(self):
        """The texts of all promises."""
        return tuple([promise_text(promise) for promise in self._state.promised])

    def get(self, name):
        """The spoken yard of a name."""
        return yard_of(self._state, name)

    def many(self, name, stand):
        """How many stands can be come to from the stand of a name."""
        spoken = self.get(name)
        return count_of(spoken.yard, stand_of_name(spoken, stand))

    def kept(self, text):
        """The pair of whether a promise is kept, and its witness."""
        return looked_at(self._state, promise_of(text))

    def answer(self, name, one, other):
        """What settle tells of two stands of a yard."""
        yard, row, goal = asked(self._state, (name, "to", one, other))
        return settle(yard, row, goal)

    def put(self, text):
        """Puts the yards of a text in the places of those of their names, or behind all others."""
        yards = self._state.yards
        for spoken in spoken_of(text):
            yards = with_yard(yards, spoken)
        self._edit(State(yards, self._state.promised))

    def drop(self, name):
        """Drops a yard, and all promises about it."""
        dropped = self.get(name)
        yards = [spoken for spoken in self._state.yards if spoken.name != dropped.name]
        promises = [promise for promise in self._state.promised if promise[0] != dropped.name]
        self._edit(State(yards, promises))

    def rename(self, name, new):
        """Gives a yard, and all promises about it, a new name."""
        if not is_name(new):
            raise BadName(new)
        spoken = self.get(name)
        if new in self.names():
            raise TakenName(new)
        place = self.names().index(name)
        yards = replaced(self._state.yards, place, Spoken(new, spoken.yard, spoken.stands))
        promises = [(new,) + promise[1:] if promise[0] == name else promise
                    for promise in self._state.promised]
        self._edit(State(yards, promises))

    def lay(self, name, stand, row):
        """Puts a row in the place of the stand of a name, or behind all others."""
        spoken = self.get(name)
        if not is_name(stand):
            raise BadName(stand)
        if not is_stand_row(spoken.yard, row) or any([thing > MOST_THING for thing in row]):
            raise BadRow(row)
        names = [known for known, _ in spoken.stands]
        place = names.index(stand) if stand in names else len(names)
        stands = replaced(spoken.stands, place, (stand, tuple(row)))
        yards = with_yard(self._state.yards, Spoken(spoken.name, spoken.yard, stands))
        self._edit(State(yards, self._state.promised))

    def keep(self, text):
        """Makes a promise."""
        promise = promise_of(text)
        # Its errors are raised at once, also where promises are looked at only later.
        looked_at(self._state, promise)
        promises = self._state.promised
        if promise not in promises:
            promises = promises + (promise,)
        self._edit(State(self._state.yards, promises))

    def release(self, text):
        """Gives a promise up."""
        try:
            released = promise_of(text)
        except BadText:
            raise NoName(text) from None
        promises = self._state.promised
        if released not in promises:
            raise NoName(text)
        left = [promise for promise in promises if promise != released]
        self._edit(State(self._state.yards, left))

    def undo(self):
        """Takes the last edit back."""
        if not self._past:
            raise NothingToUndo()
        self._future = self._future + (self._state,)
        self._state = self._past[-1]
        self._past = self._past[:-1]

    def redo(self):
        """Makes the edit again that was taken back last."""
        if not self._future:
            raise NothingToRedo()
        self._past = self._past + (self._state,)
        self._state = self._future[-1]
        self._future = self._future[:-1]

    def attempt(self, action):
        """Tells what a function of the workshop tells; all its edits are one."""
        told, state = self._tried(action)
        self._enter(state)
        return told

    def trial(self, action):
        """Tells what a function of the workshop tells; none of its edits stay."""
        return self._tried(action)[0]

    def _tried(self, action):
        """What a function tells, and the state behind it; the workshop itself is as it was."""
        before, past, future = self._state, self._past, self._future
        self._past, self._future = (), ()
        self._within += 1
        try:
            told = action(self)
            state = self._state
            if self._within == 1:
                check_promises(before, state)
        finally:
            self._within -= 1
            self._state, self._past, self._future = before, past, future
        return told, state

    def _edit(self, state):
        """Makes a state the one of now, if its promises are kept, where that is looked at."""
        if self._within == 0:
            check_promises(self._state, state)
        self._enter(state)

    def _enter(self, state):
        """Makes a state the one of now: an edit, if it is not as the one before."""
        if not are_alike(self._state, state):
            self._past = self._past + (self._state,)
            self._future = ()
            self._state = state

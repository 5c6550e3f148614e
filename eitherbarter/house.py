"""Houses: a stock with its book, its nailed barters and its goal, and the acts that were done with them."""

from eitherbarter.accounts import check_prices, cost_of
from eitherbarter.acts import state_after
from eitherbarter.carrying import deeds_asked, fewest_deeds, many_deeds
from eitherbarter.deeds import is_deed
from eitherbarter.errors import BadAct, NothingDone, UnknownName, UnlikeBooks
from eitherbarter.squares import is_good_book
from eitherbarter.stocks import check_stock
from eitherbarter.tasks import Task, done_so_far
from eitherbarter.words import is_word

MOST_DONE = 120


class House:
    """A house, with its past and its marks."""

    def __init__(self, book, stock):
        check_stock(book, stock)
        # The acts that are done, and then those that are undone; and the states ahead of and behind each of them.
        self._acts = []
        self._states = [(book, stock, (), None, None)]
        self._at = 0
        self._marks = {}

    def __eq__(self, other):
        if not isinstance(other, House):
            return False
        if self._states[0] != other._states[0] or self._acts != other._acts or self._at != other._at:
            return False
        return list(self._marks.items()) == list(other._marks.items())

    def state(self):
        """The present state."""
        return self._states[self._at]

    def book(self):
        """The present book."""
        return self.state()[0]

    def stock(self):
        """The present stock."""
        return self.state()[1]

    def nails(self):
        """The list of the names of the nailed barters."""
        return list(self.state()[2])

    def goal(self):
        """The goal, or None."""
        return self.state()[3]

    def plan(self):
        """The plan, or None."""
        return self.state()[4]

    def do(self, act):
        """Does an act, and returns the number of done acts."""
        return self.tried([act])

    def tried(self, acts):
        """Does all acts of a list, or none if one cannot be done, and returns the number of done acts."""
        states = self.states_behind(acts)
        if states:
            self._acts = self._acts[:self._at] + list(acts)
            self._states = self._states[:self._at + 1] + states
            self._at = len(self._acts)
        return self._at

    def would(self, acts):
        """The state behind all acts of a list."""
        states = self.states_behind(acts)
        return states[-1] if states else self.state()

    def states_behind(self, acts):
        """The list of the states behind each of some acts, done one after another from the present state on."""
        states = []
        state = self.state()
        for act in acts:
            state = state_after(state, act)
            if self._at + len(states) >= MOST_DONE:
                raise BadAct("full")
            states.append(state)
        return states

    def undo(self):
        """Leads back to the state before the last done act, and returns the number of done acts."""
        if self._at == 0:
            raise NothingDone()
        self._at -= 1
        return self._at

    def redo(self):
        """Does the first undone act again, and returns the number of done acts."""
        if self._at == len(self._acts):
            raise NothingDone()
        self._at += 1
        return self._at

    def done(self):
        """The list of the done acts."""
        return self._acts[:self._at]

    def undone(self):
        """The list of the undone acts, the one that is redone first ahead."""
        return self._acts[self._at:]

    def paid(self):
        """The number of done acts that are deeds."""
        return many_dos(self.done())

    def due(self):
        """The number of deeds of the plan, or None without a goal."""
        return None if self.plan() is None else many_deeds(self.plan())

    def waste(self):
        """How many deeds since the goal was set are in vain so far, or None without a goal."""
        if self.plan() is None:
            return None
        acts = self.done()
        # There is a goal, so some done act has set it.
        last = [k for k, act in enumerate(acts) if act[0] == "goal"][-1]
        return many_dos(acts[last + 1:]) - many_deeds(self._states[last + 1][4]) + self.due()

    def left(self):
        """The fewest deeds from the stock to the goal, or None without a goal or in a book that is not good."""
        return self.due() if is_good_book(self.book()) else None

    def left_cost(self, prices):
        """What the plan costs at prices, or None where nothing is told of what is left."""
        check_prices(self.book(), prices)
        return None if self.left() is None else cost_of(self.plan(), prices)

    def way(self):
        """Any list of as many deeds as are left that leads from the stock to the goal, or None likewise."""
        if self.left() is None:
            return None
        # In a good book the plan is the only account to the goal, so one never gets stuck with it.
        task = Task(self.book(), self.stock(), self.plan())
        return [task.deed(k) for k in done_so_far(task)[0]]

    def next_deeds(self):
        """The list of the deeds that begin such a way, or None likewise."""
        if self.left() is None:
            return None
        return [deed for deed in deeds_asked(self.book(), self.plan()) if is_deed(self.book(), self.stock(), deed)]

    def keep(self, name):
        """Keeps the present stock and book under a name."""
        if not is_word(name):
            raise UnknownName(name)
        self._marks[name] = (self.book(), self.stock())

    def marks(self):
        """The list of the names of the marks, in the order in which they first were kept."""
        return list(self._marks)

    def marked(self, name):
        """The pair of the book and the stock of a mark."""
        if not is_word(name) or name not in self._marks:
            raise UnknownName(name)
        return self._marks[name]

    def due_to(self, name):
        """The number of deeds of the account to the stock of a mark."""
        book, stock = self.marked(name)
        if self.book() != book:
            raise UnlikeBooks()
        return fewest_deeds(book, self.stock(), stock)

    def twin(self):
        """An equal house that goes its own way."""
        first = self._states[0]
        other = House(first[0], first[1])
        other._acts = list(self._acts)
        other._states = list(self._states)
        other._at = self._at
        other._marks = dict(self._marks)
        return other


def many_dos(acts):
    """How many of the acts are deeds."""
    return len([act for act in acts if act[0] == "do"])

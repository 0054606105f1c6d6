"""Desks: forks of a log of scripts, with locks, led step by step."""

from accountmaps.checks import check_index, check_known, check_names, check_state
from accountmaps.commands import read_command
from accountmaps.compiling import script_words
from accountmaps.copies import copied
from accountmaps.deeds import changed, map_of, run
from accountmaps.errors import Clash, DoubleName, Locked, NothingToUndo
from accountmaps.firsts import first_with_results
from accountmaps.joining import table_behind
from accountmaps.reckoning import laid_out, laid_out_scripts
from accountmaps.rests import least_way
from accountmaps.spots import parted_states
from accountmaps.tables import difference, same_rows, same_table, table_of
from accountmaps.texts import show_script, show_state


class Desk:
    """A desk of a house.

    Each script that was done has a number, its place in a list that only grows; a log is a tuple of numbers. How
    the desk stands is a tuple that never changes: the tuple (log, state) of each fork by its name, the name of
    the open one, and the locked accounts.
    """

    def __init__(self, house, state):
        check_state(len(house.accounts), state)
        self._house = house
        self._start = list(state)
        self._scripts = []
        self._tables = {}
        self._now = {"main": ((), tuple(state))}, "main", ()
        self._past = []

    @property
    def house(self):
        """The house."""
        return self._house

    @property
    def state(self):
        """The state of the open fork."""
        _, state = self._opened()
        return list(state)

    @property
    def fork(self):
        """The name of the open fork."""
        _, name, _ = self._now
        return name

    def __len__(self):
        return len(self._past)

    def log(self):
        """The scripts of the open fork's log."""
        log, _ = self._opened()
        return [copied(self._scripts[number]) for number in log]

    def forks(self):
        """The ascending names of the forks."""
        forks, _, _ = self._now
        return sorted(forks)

    def locks(self):
        """The locked accounts, in the order of the house."""
        _, _, locked = self._now
        return [name for name in self._house.accounts if name in locked]

    def do(self, script):
        """Do a script at the end of the open fork, and return the state then."""
        self._refuse_changes([script])
        log, state = self._opened()
        then = run(self._house, script, list(state))
        self._scripts.append(copied(script))
        self._go_on(log + (len(self._scripts) - 1,), then)
        return then

    def lock(self, name):
        """Lock an account."""
        forks, opened, locked = self._now
        check_known(self._house.accounts, [name])
        if name in locked:
            raise Locked(name)
        self._go_to(forks, opened, locked + (name,))

    def unlock(self, name):
        """Let a locked account go."""
        forks, opened, locked = self._now
        check_known(list(locked), [name])
        self._go_to(forks, opened, tuple([other for other in locked if other != name]))

    def branch(self, name):
        """Make a new fork with the log of the open one, which stays open."""
        forks, opened, locked = self._now
        check_names([name])
        if name in forks:
            raise DoubleName(name)
        self._go_to({**forks, name: forks[opened]}, opened, locked)

    def switch(self, name):
        """Open a fork, and return its state."""
        forks, _, locked = self._now
        check_known(list(forks), [name])
        self._go_to(forks, name, locked)
        return self.state

    def merge(self, name):
        """Do in the open fork what stands in the log of a fork alone, and return the state then."""
        forks, opened, _ = self._now
        check_known(list(forks), [name])
        (own, state), (other, _) = forks[opened], forks[name]
        missing = tuple([number for number in other if number not in own])
        self._refuse_clash(own + missing, other + tuple([number for number in own if number not in other]))
        self._refuse_changes([self._scripts[number] for number in missing])
        then = self._state_behind(missing, list(state))
        self._go_on(own + missing, then)
        return then

    def take_out(self, index):
        """Take a script out of the open fork's log, and return the state that comes so."""
        log, state = self._opened()
        check_index(index, len(log))
        left = log[:index] + log[index + 1:]
        then = self._state_behind(left, self._start)
        self._refuse_names([name for name, now, other in zip(self._house.accounts, state, then) if now != other])
        self._go_on(left, then)
        return then

    def undo(self):
        """Take back the last call that is not taken back."""
        if len(self._past) == 0:
            raise NothingToUndo(0)
        self._now = self._past.pop()

    def readable(self, names):
        """The ascending accounts whose amounts ahead of the open fork's log some accounts tell behind it."""
        accounts = self._house.accounts
        check_known(accounts, names)
        log, _ = self._opened()
        moduli, pieces = self._table_of(log)
        places = [place for place, name in enumerate(accounts) if name in names]
        looks = least_way(moduli, [tuple([rows[place] for place in places]) for rows in pieces])
        asks = [((1,) * len(accounts), [(row,)]) for row in same_rows(len(accounts))]
        return sorted([name for name, question in zip(accounts, asks) if parted_states(looks, question) is None])

    def program(self):
        """A program without need that does the open fork's log and leaves the pile as it is."""
        log, _ = self._opened()
        known = laid_out_scripts(self._house.scripts)
        return [word for number in log for word in script_words(laid_out(known, self._scripts[number]))]

    def order(self, text):
        """Do what a text says, and return the text that answers it."""
        word, thing = read_command(text)
        if word == "do":
            return show_state(self.do(thing))
        if word == "switch":
            return show_state(self.switch(thing))
        if word == "merge":
            return show_state(self.merge(thing))
        if word == "out":
            return show_state(self.take_out(thing))
        if word == "state":
            return show_state(self.state)
        if word == "forks":
            return " ".join(self.forks())
        if word == "locks":
            return " ".join(self.locks()) if self.locks() else "-"
        if word == "log":
            return " | ".join([show_script(script) for script in self.log()]) if self.log() else "-"
        if word == "map":
            log, _ = self._opened()
            return show_map(self._table_of(log))
        self._lead(word, thing)
        return "done"

    def _lead(self, word, name):
        """Do what is answered without a state."""
        if word == "lock":
            self.lock(name)
        elif word == "unlock":
            self.unlock(name)
        elif word == "branch":
            self.branch(name)
        else:
            self.undo()

    def _opened(self):
        """The tuple (log, state) of the open fork."""
        forks, name, _ = self._now
        return forks[name]

    def _go_to(self, forks, opened, locked):
        """Let the desk stand otherwise, in a way that can be taken back."""
        self._past.append(self._now)
        self._now = forks, opened, locked

    def _go_on(self, log, state):
        """Let the open fork have another log and another state."""
        forks, opened, locked = self._now
        self._go_to({**forks, opened: (log, tuple(state))}, opened, locked)

    def _state_behind(self, log, state):
        """The state behind the scripts of a log."""
        for number in log:
            state = run(self._house, self._scripts[number], state)
        return list(state)

    def _table_of(self, log):
        """The table of the map of a log: what it is for the beginnings of logs is known once it is found."""
        found = same_table(len(self._house.accounts))
        for place, number in enumerate(log):
            if (number,) not in self._tables:
                self._tables[(number,)] = table_of(map_of(self._house, self._scripts[number]))
            ahead = log[:place + 1]
            if ahead not in self._tables:
                self._tables[ahead] = table_behind(found, self._tables[(number,)])
            found = self._tables[ahead]
        return found

    def _refuse_names(self, names):
        """Refuse the first account, of some that would be changed, that is locked."""
        for name in self.locks():
            if name in names:
                raise Locked(name)

    def _refuse_changes(self, scripts):
        """Refuse the first account that is locked and that one of some scripts changes in some state."""
        if self.locks():
            self._refuse_names([name for script in scripts for name in changed(self._house, script)])

    def _refuse_clash(self, one, other):
        """Refuse the first state of which two logs of the same scripts make unlike ones."""
        if one != other:
            state = first_with_results(difference(self._table_of(one), self._table_of(other)))
            if state is not None:
                raise Clash(state)


def show_map(table):
    """The text of the map of a table: the numbers of its one matrix and its amounts, or its moduli."""
    moduli, pieces = table
    if max(moduli) > 1:
        return " ".join(["rests"] + [str(modulus) for modulus in moduli])
    numbers = [part for row in pieces[0] for part in row[:-1]] + [row[-1] for row in pieces[0]]
    return " ".join(["plain"] + [str(number) for number in numbers])

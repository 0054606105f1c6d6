"""Houses: named accounts, and scripts that change them."""

from accountmaps.checks import check_known, check_names, check_script, check_unlike
from accountmaps.copies import copied
from accountmaps.errors import InvalidNumber, StillUsed, UnknownName
from accountmaps.words import names_done


def check_house(accounts, scripts):
    """Refuse accounts and scripts that make no house."""
    if not accounts:
        raise InvalidNumber(0)
    names = [name for name, _ in scripts]
    check_names(accounts)
    check_names(names)
    check_unlike(accounts)
    check_unlike(names)
    for place, (_, script) in enumerate(scripts):
        check_script(accounts, names[:place], script)


class House:
    """A house, which never changes."""

    def __init__(self, accounts, scripts):
        check_house(accounts, scripts)
        self._accounts = list(accounts)
        self._scripts = copied(scripts)

    @property
    def accounts(self):
        """The names of the accounts, in order."""
        return list(self._accounts)

    @property
    def scripts(self):
        """The tuples (name, script), in order."""
        return copied(self._scripts)

    def __getitem__(self, at):
        for name, script in self._scripts:
            if name == at:
                return copied(script)
        raise UnknownName(at)

    def __iter__(self):
        raise TypeError("a house is not iterated over")

    def __len__(self):
        return len(self._scripts)

    def __eq__(self, other):
        return isinstance(other, House) and self._accounts == other._accounts and self._scripts == other._scripts

    def with_script(self, name, script):
        """The house with one more script at its end."""
        return House(self._accounts, self._scripts + [(name, script)])

    def without_script(self, name):
        """The house without one of its scripts, which no other one may do."""
        check_known(self._names(), [name])
        for other, script in self._scripts:
            if name in names_done(script):
                raise StillUsed(other)
        return House(self._accounts, [pair for pair in self._scripts if pair[0] != name])

    def users(self, name):
        """The ascending names of the scripts that do a script, themselves or by others."""
        check_known(self._names(), [name])
        found = []
        # A script does only scripts ahead of it, so one walk through the house finds them all.
        for other, script in self._scripts:
            if any([done == name or done in found for done in names_done(script)]):
                found.append(other)
        return sorted(found)

    def _names(self):
        return [name for name, _ in self._scripts]

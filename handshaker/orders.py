"""Orders of records: whole blocks, one after the other, that explain what was read."""

from handshaker.errors import TooLarge

MOST_DONE = 8


def memory_behind(memory, records, order, k):
    """Return the memory with the writes of the first k records of an order."""
    behind = list(memory)
    for at in order[:k]:
        behind = _written(behind, records[at].writes)
    return behind


def _written(memory, writes):
    return [writes.get(cell, value) for cell, value in enumerate(memory)]


def agrees(reads, memory):
    """Return True if each cell of the reads has the value that was read."""
    return all([0 <= cell < len(memory) and memory[cell] == value for cell, value in reads.items()])


def pasts(memory, records, order, index):
    """Return the ascending list of the numbers k that are pasts of the record with this index."""
    return Account(memory, records, order).pasts_of(index)


def is_order(memory, records, order):
    """Return True if a list of integers is an order of the records from the memory."""
    if sorted(order) != _done(records):
        return False
    account = Account(memory, records, order)
    others = [at for at, record in enumerate(records) if record.kind != "done"]
    return account.agrees_in_order() and account.keeps_time() and account.all_have_pasts(others)


def have_pasts(memory, records, order):
    """Return True if each record has a past, whether it is done or not."""
    return Account(memory, records, order).all_have_pasts(list(range(len(records))))


def _done(records):
    """Return the ascending list of the indexes of the done records."""
    return [at for at, record in enumerate(records) if record.kind == "done"]


class Account:
    """Done records in some order, and the memories behind 0, 1 and so on up to all of them."""

    def __init__(self, memory, records, order):
        self._records = records
        self._in_order = [records[at] for at in order]
        self._memories = [list(memory)]
        for record in self._in_order:
            self._memories.append(_written(self._memories[-1], record.writes))
        places = {at: place for place, at in enumerate(order)}
        # The end of each done record, and how many of the first ones it takes to have it among
        # them: with one that is missing no number will do.
        self._needs = [(records[at].ended, places.get(at, len(order)) + 1) for at in _done(records)]

    def agrees_in_order(self):
        """Return True if the reads of each record agree with the memory behind those ahead of it."""
        return all([agrees(record.reads, self._memories[k]) for k, record in enumerate(self._in_order)])

    def keeps_time(self):
        """Return True if no record has ended before one ahead of it began."""
        begun = [record.begun for record in self._in_order]
        return all([self._in_order[k].ended >= max(begun[:k]) for k in range(1, len(begun))])

    def all_have_pasts(self, indexes):
        """Return True if each of the records with these indexes has a past."""
        return all([len(self.pasts_of(index)) > 0 for index in indexes])

    def pasts_of(self, index):
        """Return the ascending list of the pasts of a record."""
        record = self._records[index]
        least = max([k for ended, k in self._needs if ended < record.begun], default=0)
        most = self._most(record)
        return [k for k in range(least, most + 1) if agrees(record.reads, self._memories[k])]

    def _most(self, record):
        """Return how many of the first ones have begun before a record ended."""
        for k, other in enumerate(self._in_order):
            if other.begun > record.ended:
                return k
        return len(self._in_order)


def find_order(memory, records):
    """Return the least order of the records from the memory, or None if there is none."""
    done = _done(records)
    if len(done) > MOST_DONE:
        raise TooLarge("records")
    others = [at for at, record in enumerate(records) if record.kind != "done"]
    return Finder(records).least(list(memory), [], done, others)


class Finder:
    """Looks for an order of records."""

    def __init__(self, records):
        self._records = records
        self._hopeless = {}

    def least(self, memory, order, left, others):
        """Return the least order that begins like this one, or None.

        The memory is that behind it, `left` are the done records that are missing in it,
        and `others` those that are not done, none of which has a past ahead of its end.
        """
        others = [at for at in others if not self._is_past(memory, order, left, at)]
        if len(left) == 0:
            return None if others else order
        # How the records so far are ordered matters no more.
        ahead = (tuple(memory), tuple(left), tuple(others))
        if ahead in self._hopeless:
            return None
        for at in left:
            if self._may_follow(memory, left, at):
                behind = _written(memory, self._records[at].writes)
                found = self.least(behind, [*order, at], [one for one in left if one != at], others)
                if found is not None:
                    return found
        self._hopeless[ahead] = True
        return None

    def _is_past(self, memory, order, left, index):
        record = self._records[index]
        if any([self._records[at].ended < record.begun for at in left]):
            return False
        if any([self._records[at].begun > record.ended for at in order]):
            return False
        return agrees(record.reads, memory)

    def _may_follow(self, memory, left, index):
        record = self._records[index]
        if any([self._records[at].ended < record.begun for at in left if at != index]):
            return False
        return agrees(record.reads, memory)

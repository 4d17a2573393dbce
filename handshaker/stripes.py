"""Stripes: versions and owners of the cells of a memory."""

from handshaker.errors import InvalidCount, InvalidVersion, NotOwner


class Stripes:
    """The stripes of a memory, and their clock."""

    def __init__(self, count):
        if count < 1:
            raise InvalidCount()
        self.count = count
        self.clock = 0
        # Versions that are 0 and owners that are None may be missing.
        self._versions = {}
        self._owners = {}

    def stripe_of(self, cell):
        """Return the stripe of a cell's number."""
        return cell % self.count

    def version(self, stripe):
        """Return the version of a stripe."""
        return self._versions.get(stripe, 0)

    def owner(self, stripe):
        """Return the thread that has locked a stripe, or None."""
        return self._owners.get(stripe)

    def tick(self):
        """Raise the clock by 1, and return its new value."""
        self.clock += 1
        return self.clock

    def lock(self, stripe, thread):
        """Lock a stripe that has no owner and return True; otherwise return False."""
        if self.owner(stripe) is not None:
            return False
        self._owners[stripe] = thread
        return True

    def free(self, stripe, thread):
        """Let the owner of a stripe free it."""
        if self.owner(stripe) != thread:
            raise NotOwner()
        self._owners[stripe] = None

    def stamp(self, stripe, thread, version):
        """Let the owner of a stripe give it a higher version, and free it."""
        if self.owner(stripe) != thread:
            raise NotOwner()
        if version <= self.version(stripe):
            raise InvalidVersion()
        self._versions[stripe] = version
        self._owners[stripe] = None

    def is_open(self, stripe, thread, version):
        """Return True if a stripe is open for a thread at a version."""
        owner = self.owner(stripe)
        return (owner is None or owner == thread) and self.version(stripe) <= version

    def stripes_of(self, cells):
        """Return the ascending list of the stripes of some cells."""
        return sorted({self.stripe_of(cell) for cell in cells})

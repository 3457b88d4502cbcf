"""A device of a house, with the patches that it was sent."""


class Customer:
    """A device that a shop gave, the edition that it has, and those that it is to come to."""

    def __init__(self, device, name):
        self.device = device
        # Whose bytes it has, or had as the patch that is under way began.
        self.name = name
        # Of the patch that is under way, and of those that wait, (the name to which it leads, the patch).
        self.now = None
        self.coming = []

    def twin(self):
        """Tell another one that stands as this one does."""
        other = Customer(self.device.twin(), self.name)
        other.now = self.now
        other.coming = list(self.coming)
        return other

    def legs(self):
        """Tell (name, patch) of all that are under way or wait, in turn."""
        if self.now is None:
            return list(self.coming)
        return [self.now, *self.coming]

    def names(self):
        """Tell the name that it has, and behind it those that it is to come to."""
        return [self.name] + [name for name, _ in self.legs()]

    def go(self, many):
        """Do so many writes, beginning patches that wait, and tell how many were done."""
        writes = self._write(many)
        while self.now is None and self.coming:
            self.now = self.coming.pop(0)
            self.device.begin(self.now[1])
            writes += self._write(many - writes)
        return writes

    def _write(self, many):
        """Do so many writes of what is under way, and tell how many were done."""
        writes = self.device.go(many)
        if self.now is not None and self.device.under_way() is None:
            self.name = self.now[0]
            self.now = None
        return writes

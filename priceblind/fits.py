"""First fit: a store that never moves a file."""
from priceblind.histories import History


class Strip:
    """Where first fit lays files. It changes."""

    def __init__(self):
        # The files that are there, ascending: (first cell, last cell plus 1, serial).
        self.lying = []
        # The first cells of all files ever put, by serial.
        self.begun = []
        self.longest = 0

    def do(self, deeds):
        """Does deeds that can be done, one behind another."""
        for word, number in deeds:
            if word == "put":
                self._put(number)
            else:
                self._drop(number)

    def _put(self, size):
        at = 0
        for start, end, _ in self.lying:
            if start - at >= size:
                break
            at = end
        self.lying = sorted(self.lying + [(at, at + size, len(self.begun))])
        self.begun.append(at)
        self.longest = max(self.longest, at + size)

    def _drop(self, serial):
        self.lying = [row for row in self.lying if row[2] != serial]


def first_fit(deeds):
    """The places of all files, serials ascending, and the greatest length."""
    # First fit hangs on no q, so any one does.
    history = History(2, deeds)
    strip = Strip()
    strip.do(history.deeds)
    return tuple(strip.begun), strip.longest

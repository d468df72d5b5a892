"""Lines between devices, over which letters go (chapter 09)."""


class Lines:
    """A line between every two devices 1 to `count`, with a queue of waiting letters for each direction."""

    def __init__(self, count):
        self._count = count
        self._cuts = {}
        self._totals = {"sent": 0, "taken": 0, "doubled": 0, "lost": 0}
        self._queues = {}
        for source in range(1, count + 1):
            for target in range(1, count + 1):
                if source != target:
                    self._queues[(source, target)] = []

    def is_joined(self, first, second):
        """Returns True if the line between two devices is joined, otherwise False."""
        return _line(first, second) not in self._cuts

    def cut(self, first, second):
        """Cuts the line between two devices."""
        self._cuts[_line(first, second)] = True

    def join(self, first, second):
        """Joins the line between two devices."""
        if not self.is_joined(first, second):
            del self._cuts[_line(first, second)]

    def send(self, source, target, data):
        """Sends a letter. Returns True, or False if it is lost."""
        self._totals["sent"] += 1
        if not self.is_joined(source, target):
            self._totals["lost"] += 1
            return False
        self._queues[(source, target)].append(list(data))
        return True

    def waiting(self, source, target):
        """Returns the list of the letters that wait from one device to another."""
        return [list(letter) for letter in self._queues[(source, target)]]

    def take(self, source, target, index):
        """Returns the waiting letter with this index, or None if there is none or the line is cut."""
        if not self.is_joined(source, target) or not self._waits(source, target, index):
            return None
        self._totals["taken"] += 1
        return self._queues[(source, target)].pop(index)

    def drop(self, source, target, index):
        """Drops the waiting letter. Returns True, or False if there is none."""
        if not self._waits(source, target, index):
            return False
        del self._queues[(source, target)][index]
        self._totals["lost"] += 1
        return True

    def double(self, source, target, index):
        """Doubles the waiting letter. Returns True, or False if there is none."""
        if not self._waits(source, target, index):
            return False
        queue = self._queues[(source, target)]
        queue.append(list(queue[index]))
        self._totals["doubled"] += 1
        return True

    def swap(self, source, target, index):
        """Exchanges the waiting letter and the next one. Returns True, or False if one is not there."""
        if not self._waits(source, target, index) or not self._waits(source, target, index + 1):
            return False
        queue = self._queues[(source, target)]
        queue[index], queue[index + 1] = queue[index + 1], queue[index]
        return True

    def _waits(self, source, target, index):
        return 0 <= index < len(self._queues[(source, target)])

    def total(self, word):
        """Returns how many letters were sent, taken, doubled or lost, or are waiting, on all lines."""
        if word == "waiting":
            return sum([len(queue) for queue in self._queues.values()])
        return self._totals[word]

    def reached_from(self, device):
        """Returns the ascending list of the devices that joined lines reach from a device, with itself."""
        reached = [device]
        at = 0
        while at < len(reached):
            for other in range(1, self._count + 1):
                if other not in reached and self.is_joined(reached[at], other):
                    reached.append(other)
            at += 1
        return sorted(reached)

    def connected(self):
        """Returns True if joined lines reach all devices, otherwise False."""
        return len(self.reached_from(1)) == self._count


def _line(first, second):
    # A line is cut or joined in both directions at once.
    return min(first, second), max(first, second)

"""The store of a device: what it keeps when its power ends (chapter 05)."""

from folderkin.errors import PowerCut


class Store:
    """Files, temporary files, an attic and two logs, which are changed by counted writes."""

    def __init__(self, files, log):
        self._files = {name: (list(content), time) for name, (content, time) in files.items()}
        self._temps = {}
        self._attic = []
        self._log = list(log)
        self._new_log = []
        self._budget = None
        self._done = 0

    def set_budget(self, count):
        """Lets so many further writes be done; None lets any number be done."""
        self._budget = count

    def done(self):
        """Returns how many writes were done."""
        return self._done

    def _count_write(self):
        # Called ahead of each change: a write is done wholly or not at all.
        if self._budget is not None:
            if self._budget <= 0:
                raise PowerCut(self._done)
            self._budget -= 1
        self._done += 1

    def names(self):
        """Returns the ascending list of the names of the files."""
        return sorted(self._files)

    def read(self, name):
        """Returns the pair of the content and the time of a file, or None."""
        if name not in self._files:
            return None
        content, time = self._files[name]
        return list(content), time

    def write(self, name, content, time):
        """Writes a file."""
        self._count_write()
        self._files[name] = (list(content), time)

    def remove(self, name):
        """Removes a file, if there is one."""
        self._count_write()
        if name in self._files:
            del self._files[name]

    def rename(self, old, new):
        """Renames a file; one with the new name is replaced."""
        self._count_write()
        if old in self._files:
            # The old name is taken away first: it may be the new one, too.
            held = self._files.pop(old)
            self._files[new] = held

    def temp_names(self):
        """Returns the ascending list of the names of the temporary files."""
        return sorted(self._temps)

    def temp(self, name):
        """Returns the content of a temporary file, or None."""
        return list(self._temps[name]) if name in self._temps else None

    def append_temp(self, name, data):
        """Appends bytes to a temporary file, which is made if there is none."""
        for byte in data:
            self._count_write()
            self._temps.setdefault(name, []).append(byte)

    def cut_temp(self, name, count):
        """Keeps the first bytes of a temporary file; with 0 bytes it is gone."""
        self._count_write()
        if name in self._temps:
            if count == 0:
                del self._temps[name]
            else:
                self._temps[name] = self._temps[name][:count]

    def place(self, name, time):
        """Lets the temporary file, or an empty content if there is none, become the file of this name."""
        self._count_write()
        self._files[name] = (self._temps.pop(name, []), time)

    def attic(self):
        """Returns the list of the tuples (name, vector, content) in the attic, the oldest first."""
        return [(name, vector, list(content)) for name, vector, content in self._attic]

    def attic_put(self, name, vector, content):
        """Puts a content into the attic."""
        self._count_write()
        self._attic.append((name, vector, list(content)))

    def attic_drop(self, index):
        """Takes what has this index out of the attic."""
        self._count_write()
        if 0 <= index < len(self._attic):
            del self._attic[index]

    def log(self):
        """Returns the bytes of the log."""
        return list(self._log)

    def log_size(self):
        """Returns the number of the bytes of the log."""
        return len(self._log)

    def new_log(self):
        """Returns the bytes of the new log."""
        return list(self._new_log)

    def log_append(self, data):
        """Appends bytes to the log."""
        for byte in data:
            self._count_write()
            self._log.append(byte)

    def new_log_append(self, data):
        """Appends bytes to the new log."""
        for byte in data:
            self._count_write()
            self._new_log.append(byte)

    def drop_new_log(self):
        """Empties the new log."""
        self._count_write()
        self._new_log = []

    def switch_log(self):
        """Lets the new log become the log; the new log is empty then."""
        self._count_write()
        self._log = self._new_log
        self._new_log = []

    def durable(self):
        """Returns all that is kept, as a tuple; it is equal for stores that keep the same."""
        files = tuple([(name, tuple(self._files[name][0]), self._files[name][1]) for name in sorted(self._files)])
        temps = tuple([(name, tuple(self._temps[name])) for name in sorted(self._temps)])
        attic = tuple([(name, vector, tuple(content)) for name, vector, content in self._attic])
        return files, temps, attic, tuple(self._log), tuple(self._new_log)

    def _keep(self, temps, attic, new_log):
        """Sets what a store without writes does not keep yet."""
        self._temps = {name: list(content) for name, content in temps}
        self._attic = [(name, vector, list(content)) for name, vector, content in attic]
        self._new_log = list(new_log)


def from_durable(value):
    """Returns a store that keeps what one with this `durable()` kept, without a budget."""
    files, temps, attic, log, new_log = value
    store = Store({name: (content, time) for name, content, time in files}, log)
    store._keep(temps, attic, new_log)
    return store

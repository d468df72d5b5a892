"""Worlds: devices, lines between them and users, which obey commands (chapter 14)."""

from folderkin.changes import Changes
from folderkin.content import split
from folderkin.devices import Device
from folderkin.errors import PowerCut
from folderkin.judging import unlike
from folderkin.letters import decode, encode
from folderkin.lines import Lines
from folderkin.store import Store, from_durable


class World:
    """Devices 1 to `count` with equal rules, patterns told for each of them, and lines between them."""

    def __init__(self, count, rule, patterns):
        self._rule = rule
        self._patterns = [list(row) for row in patterns]
        self._changes = Changes()
        self._user_rows = []
        self.lines = Lines(count)
        self.devices = [self._made(number, Store({}, [])) for number in range(1, count + 1)]

    def _made(self, number, store):
        """Returns a device of what a store keeps, which notes its changes for the world."""
        device = self._device_of(number, store, self._rule, self._patterns[number - 1])
        device.changes = self._changes
        return device

    def _device_of(self, number, store, rule, patterns):
        return Device(number, store, rule, patterns)

    def obey(self, command):
        """Obeys a command; returns what is told for it."""
        word = command[0]
        if word in ("edit", "remove", "move"):
            return self._obey_user(command)
        if word in ("cut", "join", "drop", "double", "swap"):
            return self._obey_line(command)
        if word == "round":
            return self._round(command[1])
        if word == "ask":
            return self._ask(command[1], command[2])
        if word == "deliver":
            return self._deliver(command[1], command[2], command[3])
        if word == "work":
            return self._work(command[1], command[2])
        if word == "budget":
            return self.devices[command[1] - 1].store.set_budget(command[2])
        done, found = self._let(command[1], lambda device: device.scan(command[2]))
        return len(found) if done else None

    def user_edits(self):
        """Returns the list of what users replaced, removed or renamed, in order."""
        return list(self._user_rows)

    def history(self):
        """Returns the list of all changes of own entries, in order."""
        return self._changes.rows()

    def _let(self, number, action):
        """Lets a device do something; returns (True, what that returns), or (False, None) if its power ended."""
        device = self.devices[number - 1]
        try:
            return True, action(device)
        except PowerCut:
            made = self._made(number, from_durable(device.store.durable()))
        self._changes.note_found(number, made.book)
        self.devices[number - 1] = made
        return False, None

    def _obey_user(self, command):
        word, number, name = command[:3]
        if word == "edit":
            self._edit(number, name, command[3], command[4])
            return None
        file = self.devices[number - 1].store.read(name)
        if file is None:
            return False
        rows = [(number, name, split(file[0]))]
        if word == "remove":
            return self._change(number, rows, lambda device: device.store.remove(name))
        new = command[3]
        if new == name:
            return True
        rows.extend(self._replaced(number, new, file[0]))
        return self._change(number, rows, lambda device: device.store.rename(name, new))

    def _edit(self, number, name, content, time):
        rows = self._replaced(number, name, list(content))
        self._change(number, rows, lambda device: device.store.write(name, content, time))

    def _replaced(self, number, name, content):
        """Returns the rows of what is replaced if a user lets a file have this content."""
        file = self.devices[number - 1].store.read(name)
        return [] if file is None or file[0] == content else [(number, name, split(file[0]))]

    def _change(self, number, rows, action):
        """Lets a user change files, and tells what was there; returns True, or False for a power cut."""
        done, _ = self._let(number, action)
        if done:
            self._user_rows.extend(rows)
        return done

    def _obey_line(self, command):
        word, source, target = command[:3]
        if word == "cut":
            return self.lines.cut(source, target)
        if word == "join":
            return self.lines.join(source, target)
        if word == "drop":
            return self.lines.drop(source, target, command[3])
        if word == "double":
            return self.lines.double(source, target, command[3])
        return self.lines.swap(source, target, command[3])

    def _ask(self, number, peer):
        self._send(number, peer, self.devices[number - 1].ask(peer))

    def _send(self, source, target, letter):
        self.lines.send(source, target, encode(letter))

    def _deliver(self, source, target, index):
        data = self.lines.take(source, target, index)
        if data is None:
            return False
        letter = decode(data)
        done, answers = self._let(target, lambda device: device.hear(source, letter))
        if done:
            for answer in answers:
                self._send(target, source, answer)
        return done

    def _peers(self, number):
        """Returns the ascending list of the devices to which the lines of a device are joined."""
        others = [other for other in range(1, len(self.devices) + 1) if other != number]
        return [other for other in others if self.lines.is_joined(number, other)]

    def _work(self, number, now):
        done, letters = self._let(number, lambda device: device.work(self._peers(number), now))
        if not done:
            return None
        for peer, letter in letters:
            self._send(number, peer, letter)
        return len(letters)

    def _round(self, now):
        count = len(self.devices)
        for number in range(1, count + 1):
            self._let(number, lambda device: device.scan(now))
        for first in range(1, count + 1):
            for second in self._peers(first):
                if first < second:
                    self._exchange(first, second)
                    self._exchange(second, first)
        return sum([self._work_through(number, now) for number in range(1, count + 1)])

    def _exchange(self, number, peer):
        """Lets a device ask a peer and hear the answer, without the line."""
        question = self.devices[number - 1].ask(peer)
        # A question is answered without a write, so the power of the peer does not end.
        answers = self.devices[peer - 1].hear(number, question)
        for answer in answers:
            self._let(number, lambda device: device.hear(peer, answer))

    def _work_through(self, number, now):
        """Lets a device work until it sends no letters; returns the number of the blocks that went to it."""
        blocks = 0
        while True:
            _, letters = self._let(number, lambda device: device.work(self._peers(number), now))
            if not letters:
                return blocks
            for peer, letter in letters:
                answers = self.devices[peer - 1].hear(number, letter)
                for answer in answers:
                    blocks += 1 if answer[0] == "block" else 0
                    done, _ = self._let(number, lambda device: device.hear(peer, answer))
                    if not done:
                        return blocks


def are_alike(first, second):
    """Returns True if two devices are alike, otherwise False."""
    return unlike(first, second) is None

"""Scripts: worlds and the commands that they obey, as texts (chapter 17)."""

from folderkin.attic import Rule
from folderkin.errors import InvalidScript
from folderkin.names import is_user_name
from folderkin.patterns import MOST_PATTERNS
from folderkin.words import format_word, read_word
from folderkin.worlds import World

# The kinds of the words behind the first one of a line, in their order.
_WORLD = ("count", "number", "number")
_LEAVE = ("device", "pattern")
_COMMANDS = {
    "edit": ("device", "name", "content", "number"),
    "remove": ("device", "name"),
    "move": ("device", "name", "new"),
    "scan": ("device", "number"),
    "work": ("device", "number"),
    "round": ("number",),
    "ask": ("device", "peer"),
    "cut": ("device", "peer"),
    "join": ("device", "peer"),
    "deliver": ("device", "peer", "number"),
    "drop": ("device", "peer", "number"),
    "double": ("device", "peer", "number"),
    "swap": ("device", "peer", "number"),
    "budget": ("device", "budget"),
}


class Script:
    """The number of devices of a world, the rule of their attics, their patterns, and commands."""

    def __init__(self, count, rule, patterns, commands):
        self.count = count
        self.rule = rule
        self.patterns = [list(row) for row in patterns]
        self.commands = list(commands)

    def __eq__(self, other):
        return (
            isinstance(other, Script)
            and self.count == other.count
            and self.rule == other.rule
            and self.patterns == other.patterns
            and self.commands == other.commands
        )


def format_script(script):
    """Returns the text of a script."""
    lines = [_line("world", _WORLD, (script.count, script.rule.each, script.rule.total))]
    for index, patterns in enumerate(script.patterns):
        lines.extend([_line("leave", _LEAVE, (index + 1, pattern)) for pattern in patterns])
    for command in script.commands:
        lines.append(_line(command[0], _COMMANDS[command[0]], command[1:]))
    return "\n".join(lines)


def _line(word, kinds, values):
    return " ".join([word] + [format_word(kind, value) for kind, value in zip(kinds, values)])


def parse_script(text):
    """Returns the Script that the text writes. Raises InvalidScript."""
    lines = text.split("\n")
    script = None
    for index, line in enumerate(lines):
        if line == "" or line.startswith("#"):
            continue
        words = line.split(" ")
        if script is None:
            script = _read_world(words, index)
        elif words[0] == "leave":
            _read_leave(script, words, index)
        else:
            script.commands.append(_read_command(script, words, index))
    if script is None:
        raise InvalidScript(len(lines))
    return script


def _read_world(words, index):
    if words[0] != "world":
        raise InvalidScript(index)
    count, each, total = _read_words(_WORLD, words, 0, index)
    return Script(count, Rule(each, total), [[] for _ in range(count)], [])


def _read_leave(script, words, index):
    """Reads a line of patterns into a script."""
    device, pattern = _read_words(_LEAVE, words, script.count, index)
    patterns = script.patterns[device - 1]
    if script.commands or len(patterns) == MOST_PATTERNS:
        raise InvalidScript(index)
    patterns.append(pattern)


def _read_command(script, words, index):
    # A second world line is no command either.
    if words[0] not in _COMMANDS:
        raise InvalidScript(index)
    values = _read_words(_COMMANDS[words[0]], words, script.count, index)
    return (words[0], *values)


def _read_words(kinds, words, count, index):
    """Returns the list of the values of the words behind the first one, which must be of these kinds."""
    if len(words) != len(kinds) + 1:
        raise InvalidScript(index)
    values = []
    for kind, word in zip(kinds, words[1:]):
        value = read_word(kind, word, count, index)
        # A peer is another device than the one ahead of it.
        if kind == "peer" and value == values[0]:
            raise InvalidScript(index)
        values.append(value)
    return values


def run_script(script):
    """Returns the pair of the World that obeyed the commands and the list of what was told for each of them."""
    world = World(script.count, script.rule, script.patterns)
    return world, [_obeyed(world, command) for command in script.commands]


def _obeyed(world, command):
    """Returns what a world tells for a command."""
    if command[0] == "edit" and not is_user_name(command[2]):
        _, device, name, _, _ = command
        # A name like that of a copy is not given to a new file.
        if world.devices[device - 1].store.read(name) is None:
            return False
    return world.obey(command)

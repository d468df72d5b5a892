"""Scripts (chapter 17)."""

import random
import unittest
from copy import deepcopy

from folderkin.attic import Rule
from folderkin.errors import FolderkinError, InvalidScript
from folderkin.names import CHARACTERS
from folderkin.patterns import parse_patterns
from folderkin.scripts import Script, format_script, parse_script, run_script
from folderkin.worlds import World
from tests.drawing import drawn_command
from tests.helpers import random_pattern
from tests.rigs import all_seen
from tests.samples import LARGEST, random_content, random_name

HEAD = "world 3 4 5"
LONGEST = "a" * 40
MOST = "f" * 2040


def script_of(*commands, count=3, rule=Rule(4, 5), patterns=None):
    return Script(count, rule, [[] for _ in range(count)] if patterns is None else patterns, list(commands))


def parts_of(script):
    return script.count, (script.rule.each, script.rule.total), script.patterns, script.commands


def place_of(text):
    """The place of the InvalidScript that a text raises, or None if it raises nothing."""
    try:
        parse_script(text)
    except InvalidScript as error:
        return error.place
    return None


# Each form of a command, with the least and the greatest values.
LINES = [
    ("edit 1 a - 0", ("edit", 1, "a", (), 0)),
    ("edit 3 " + LONGEST + " " + MOST + " 4294967295", ("edit", 3, LONGEST, (255,) * 1020, LARGEST)),
    ("edit 2 a~1-1 000a9f 10", ("edit", 2, "a~1-1", (0, 10, 159), 10)),
    ("edit 2 - 00 10", ("edit", 2, "-", (0,), 10)),
    ("edit 2 # 00 10", None),
    ("remove 1 a", ("remove", 1, "a")), ("remove 3 " + LONGEST, ("remove", 3, LONGEST)),
    ("move 1 a b", ("move", 1, "a", "b")), ("move 2 a a", ("move", 2, "a", "a")),
    ("move 3 " + LONGEST + " " + "z" * 27, ("move", 3, LONGEST, "z" * 27)),
    ("move 3 a~1-1 /", ("move", 3, "a~1-1", "/")),
    ("scan 1 0", ("scan", 1, 0)), ("scan 3 4294967295", ("scan", 3, LARGEST)),
    ("work 1 0", ("work", 1, 0)), ("work 3 4294967295", ("work", 3, LARGEST)),
    ("round 0", ("round", 0)), ("round 4294967295", ("round", LARGEST)), ("round 1000000000", ("round", 10 ** 9)),
    ("ask 1 2", ("ask", 1, 2)), ("cut 3 1", ("cut", 3, 1)), ("join 2 3", ("join", 2, 3)),
    ("deliver 1 3 0", ("deliver", 1, 3, 0)), ("drop 3 1 4294967295", ("drop", 3, 1, LARGEST)),
    ("double 2 1 7", ("double", 2, 1, 7)), ("swap 1 2 9", ("swap", 1, 2, 9)),
    ("budget 1 none", ("budget", 1, None)), ("budget 2 0", ("budget", 2, 0)),
    ("budget 3 4294967295", ("budget", 3, LARGEST)),
]


class Scripts(unittest.TestCase):
    def test_attributes_are_copies(self):
        patterns, commands = [parse_patterns("a"), []], [("round", 1)]
        script = Script(2, Rule(1, 2), patterns, commands)
        patterns[0].clear()
        patterns.clear()
        commands.clear()
        self.assertEqual(parts_of(script), (2, (1, 2), [parse_patterns("a"), []], [("round", 1)]))
        self.assertEqual((type(script.patterns), type(script.patterns[0]), type(script.commands)), (list,) * 3)

    def test_equal(self):
        patterns = [parse_patterns("a\n!b"), [], []]
        script = script_of(("round", 1), ("scan", 1, 2), patterns=patterns)
        self.assertTrue(script == script_of(("round", 1), ("scan", 1, 2), patterns=deepcopy(patterns)))
        self.assertFalse(script != script_of(("round", 1), ("scan", 1, 2), patterns=deepcopy(patterns)))
        for other in (
                Script(4, Rule(4, 5), patterns, script.commands), Script(3, Rule(4, 6), patterns, script.commands),
                Script(3, Rule(4, 5), [[], [], []], script.commands),
                Script(3, Rule(4, 5), patterns[::-1], script.commands),
                Script(3, Rule(4, 5), [parse_patterns("a\nb"), [], []], script.commands),
                Script(3, Rule(4, 5), patterns, []), Script(3, Rule(4, 5), patterns, script.commands[::-1]),
                Script(3, Rule(4, 5), patterns, [("round", 2), ("scan", 1, 2)])):
            self.assertFalse(script == other)
            self.assertTrue(script != other)

    def test_other_values(self):
        script = script_of()
        for other in (None, 3, "world 3 4 5", parts_of(script), list(parts_of(script)), Rule(4, 5),
                World(1, Rule(1, 1), [[]])):
            self.assertFalse(script == other)
            self.assertTrue(script != other)


class Reading(unittest.TestCase):
    def test_each_line(self):
        for line, command in LINES:
            text = HEAD + "\n" + line
            if command is None:
                self.assertEqual(place_of(text), 1)
                continue
            script = parse_script(text)
            self.assertEqual(parts_of(script), (3, (4, 5), [[], [], []], [command]), line)
            self.assertIs(type(script.commands[0]), tuple)
            self.assertEqual(format_script(script), text)

    def test_all_lines(self):
        rows = [row for row in LINES if row[1] is not None]
        text = "\n".join([HEAD] + [line for line, _ in rows])
        script = parse_script(text)
        self.assertEqual(script.commands, [command for _, command in rows])
        self.assertEqual(format_script(script), text)

    def test_world_lines(self):
        for line, parts in (
                ("world 1 0 0", (1, (0, 0), [[]])), ("world 9 4294967295 4294967295", (9, (LARGEST, LARGEST),
                [[]] * 9))):
            self.assertEqual(parts_of(parse_script(line)), (*parts, []))
            self.assertEqual(format_script(parse_script(line)), line)

    def test_leave_lines(self):
        text = "world 3 1 1\nleave 2 *.o\nleave 1 b\nleave 2 !a~*\nleave 1 [!-a]"
        script = parse_script(text + "\nround 1")
        self.assertEqual(script.patterns, [parse_patterns("b\n[!-a]"), parse_patterns("*.o\n!a~*"), []])
        # They are written by ascending devices.
        self.assertEqual(
            format_script(script), "world 3 1 1\nleave 1 b\nleave 1 [!-a]\nleave 2 *.o\nleave 2 !a~*\nround 1")
        self.assertEqual(parse_script(format_script(script)), script)

    def test_20_patterns(self):
        lines = [f"leave {number} a{at}" for at in range(20) for number in (3, 1)]
        script = parse_script("\n".join([HEAD] + lines))
        self.assertEqual([len(patterns) for patterns in script.patterns], [20, 0, 20])
        self.assertEqual(script.patterns[0], parse_patterns("\n".join(f"a{at}" for at in range(20))))
        self.assertEqual(parse_script(format_script(script)), script)

    def test_patterns_are_written_as_point_01_6_says(self):
        script = parse_script("world 1 1 1\nleave 1 [cab]\nleave 1 ![!/]**")
        self.assertEqual(format_script(script), "world 1 1 1\nleave 1 [a-c]\nleave 1 !?**")

    def test_skipped_lines(self):
        text = "\n# one\n\n#\nworld 1 2 3\n#leave 1 a\n\nleave 1 b\n# world 4\nround 5\n\n#\n"
        script = parse_script(text)
        self.assertEqual(parts_of(script), (1, (2, 3), [parse_patterns("b")], [("round", 5)]))
        self.assertEqual(format_script(script), "world 1 2 3\nleave 1 b\nround 5")

    def test_an_index_of_no_letter_may_be_any_number(self):
        self.assertEqual(parse_script(HEAD + "\ndeliver 1 2 99").commands, [("deliver", 1, 2, 99)])

    def test_nothing_is_changed(self):
        script = parse_script("\n".join([HEAD, "leave 1 a"] + [line for line, command in LINES if command]))
        before = deepcopy(parts_of(script))
        format_script(script)
        run_script(script)
        self.assertEqual(parts_of(script), before)

    def test_drawn_scripts(self):
        rng = random.Random(1)
        for _ in range(150):
            count = rng.randint(1, 9)
            number = lambda: rng.choice([0, 1, 9, 10, rng.randint(0, LARGEST), LARGEST])
            device = lambda: rng.randint(1, count)
            commands = []
            for _ in range(rng.randint(0, 12)):
                pair = tuple(rng.sample(range(1, count + 1), 2)) if count > 1 else None
                user_name = "".join(rng.choice(CHARACTERS[:-1]) for _ in range(rng.choice([1, 5, 27])))
                options = [
                    ("edit", device(), random_name(rng), tuple(random_content(rng)), number()),
                    ("remove", device(), random_name(rng)), ("move", device(), random_name(rng), user_name),
                    ("scan", device(), number()), ("work", device(), number()), ("round", number()),
                    ("budget", device(), rng.choice([None, number()]))]
                if pair:
                    options += [("ask", *pair), ("cut", *pair), ("join", *pair)]
                    options += [(word, *pair, number()) for word in ("deliver", "drop", "double", "swap")]
                commands.append(rng.choice(options))
            patterns = [[random_pattern(rng) for _ in range(rng.choice([0, 0, 1, 3]))] for _ in range(count)]
            script = Script(count, Rule(number(), number()), patterns, commands)
            text = format_script(script)
            self.assertFalse(text.endswith("\n"))
            self.assertEqual(len(text.split("\n")), 1 + sum(map(len, patterns)) + len(commands))
            self.assertEqual(parse_script(text), script)
            self.assertEqual(format_script(parse_script(text)), text)


class Faults(unittest.TestCase):
    def assert_fault(self, line, head=HEAD):
        """A line has a fault, wherever it stands."""
        self.assertEqual(place_of(head + "\n" + line), head.count("\n") + 1, line)
        text = "# x\n\n" + head + "\n\n#\n" + line + "\nround 1\nalso wrong"
        self.assertEqual(place_of(text), head.count("\n") + 5, line)

    def test_the_class(self):
        with self.assertRaises(InvalidScript) as caught:
            parse_script("x")
        self.assertIsInstance(caught.exception, FolderkinError)
        self.assertIsInstance(caught.exception, ValueError)
        self.assertEqual(caught.exception.place, 0)

    def test_no_form(self):
        for line in (
                "x", "Round 1", "rounds 1", "round", "round 1 2", "edit", "edit 1 a", "edit 1 a -", "edit 1 a - 0 0",
                "remove 1", "remove 1 a b", "move 1 a", "move 1 a b c", "scan 1", "scan 1 1 1", "work 1", "work",
                "ask 1", "ask 1 2 3", "cut 1", "cut 1 2 3", "join 1", "join 1 2 3", "deliver 1 2", "deliver 1 2 0 0",
                "drop 1 2", "double 1 2", "swap 1 2", "budget 1", "budget 1 1 1", "leave", "leave 1", "leave 1 a b",
                "1", "world", "-", "override 1 1", "revert 1", "none", "edit1 a - 0", "!round 1"):
            self.assert_fault(line)

    def test_devices(self):
        for device in ("0", "4", "9", "10", "-1", "+1", "01", "a", "1.", "", "4294967295", "none"):
            for line in ("edit {} a - 0", "remove {} a", "move {} a b", "scan {} 1", "work {} 1", "ask {} 2",
                    "ask 2 {}",
                         "cut {} 2", "join 1 {}", "deliver {} 2 0", "drop 1 {} 0", "double {} 1 0", "swap 1 {} 0",
                         "budget {} 1", "leave {} a"):
                self.assert_fault(line.format(device))

    def test_the_same_device_as_peer(self):
        for line in ("ask 1 1", "cut 2 2", "join 3 3", "deliver 1 1 0", "drop 2 2 0", "double 3 3 0", "swap 1 1 0"):
            self.assert_fault(line)
        # One device alone has no peers.
        for line in ("ask 1 1", "ask 1 2", "ask 2 1"):
            self.assert_fault(line, "world 1 1 1")

    def test_numbers(self):
        for number in ("00", "01", "007", "12345678901", "00000000001", "4294967296", "9999999999", "-1", "+1", "1.0",
                       "1e3", "0x1", "", "a", "none", "1_0", "-", "1,0", "1" * 5000):
            for line in ("edit 1 a - {}", "scan 1 {}", "work 1 {}", "round {}", "deliver 1 2 {}", "drop 1 2 {}",
                         "double 1 2 {}", "swap 1 2 {}"):
                self.assert_fault(line.format(number))
            if number != "none":
                self.assert_fault(f"budget 1 {number}")
        for word in ("None", "NONE", "null", "none1"):
            self.assert_fault(f"budget 1 {word}")

    def test_spaces(self):
        for line in ("round  1", " round 1", "round 1 ", " ", "  ", "     ", "edit 1 a  0", "edit 1  - 0",
                "edit 1 a - ",
                     " # x", " #", "move 1  b", "budget 1 ", "leave 1 ", "leave 1  a", "leave 1 a ", "leave 1 a b"):
            self.assert_fault(line)

    def test_names(self):
        for name in ("a" * 41, "", "a*", "a#", "#", "a!", "(", "a\\b", "a[", "A:B"):
            for line in ("edit 1 {} - 0", "remove 1 {}", "move 1 {} b", "move 1 b {}"):
                self.assert_fault(line.format(name))

    def test_names_that_no_user_gives(self):
        for name in ("a" * 28, "a~", "~", "a~1-1", "a" * 40):
            self.assert_fault(f"move 1 b {name}")
            self.assert_fault(f"move 1 {name} {name}")
            for line in ("edit 1 {} - 0", "remove 1 {}", "move 1 {} b"):
                self.assertIsNone(place_of(HEAD + "\n" + line.format(name)))

    def test_contents(self):
        for content in ("0", "1", "3", "000", "0A", "FF", "fF", "0g", "--", "-0", "0-", "", "0x", "00 00", MOST + "00",
                MOST + "f"):
            self.assert_fault(f"edit 1 a {content} 0")

    def test_world_lines(self):
        for line in ("world 3 4 5", "world 1 1 1", "world"):
            self.assert_fault(line)
        for line in (
                "world", "world 3", "world 3 4", "world 3 4 5 6", "world 0 4 5", "world 10 4 5", "world 03 4 5",
                "world 3 -1 5", "world 3 4 4294967296", "world 3 04 5", "world 3  5", "World 3 4 5", " world 3 4 5",
                "world 3 4 5 ", "world a 4 5", "world 3 none 5", "world -3 4 5", "world 4294967295 1 1"):
            self.assertEqual(place_of(line), 0, line)
            self.assertEqual(place_of("#\n\n" + line + "\nworld 1 1 1"), 2, line)

    def test_another_first_line(self):
        for line in ("round 1", "leave 1 a", "edit 1 a - 0", " ", "x", " #"):
            self.assertEqual(place_of(line + "\n" + HEAD), 0)
            self.assertEqual(place_of("\n#\n\n" + line + "\n" + HEAD), 3)

    def test_leave_lines(self):
        for pattern in ("#", "#a", "!", "***", "[", "[]", "a[b", "[b-a]", "(", "a" * 41, "[-", "*" + "**", "!!", "a]"):
            self.assert_fault(f"leave 1 {pattern}")
        self.assert_fault("leave 1 a", HEAD + "\nround 1")
        self.assert_fault("leave 1 a", HEAD + "\nleave 1 b\nround 1\n")
        head = "\n".join([HEAD] + ["leave 2 a"] * 20)
        self.assert_fault("leave 2 b", head)
        self.assertIsNone(place_of(head + "\nleave 1 b\nleave 3 b"))

    def test_all_lines_are_skipped(self):
        for text, place in (("", 1), ("\n", 2), ("#", 1), ("# a\n#b", 2), ("\n\n\n", 4), ("# a\n", 2),
                ("#world 1 1 1", 1)):
            self.assertEqual(place_of(text), place, text)

    def test_the_first_fault_is_told(self):
        self.assertEqual(place_of(HEAD + "\nround 1\nround x\nround y"), 2)
        self.assertEqual(place_of("world 0 1 1\nx"), 0)
        self.assertEqual(place_of("x\n\n"), 0)

    def test_drawn_texts(self):
        """Whatever a text is, it is read, or the line that is told is the first one that has a fault."""
        rng = random.Random(2)
        lines = [line for line, _ in LINES if len(line) < 100] + ["leave 1 a*", "leave 2 !b", "", "# x", HEAD]
        for _ in range(600):
            rows = [HEAD] + [rng.choice(lines) for _ in range(rng.randint(0, 6))]
            for _ in range(rng.randint(0, 2)):
                at = rng.randrange(len(rows))
                where = rng.randint(0, len(rows[at]))
                rows[at] = rows[at][:where] + rng.choice(["", " ", "0", "a", "~", "9",
                    "#"]) + rows[at][where + rng.randint(0, 1):]
            place = place_of("\n".join(rows))
            found = [end for end in range(1, len(rows) + 1) if place_of("\n".join(rows[:end])) not in (None, end)]
            if place is None:
                self.assertEqual(found, [])
            elif place < len(rows):
                self.assertEqual(min(found), place + 1)


class Running(unittest.TestCase):
    def test_as_a_world(self):
        rng = random.Random(3)
        for _ in range(40):
            count = rng.randint(1, 3)
            patterns = [parse_patterns(rng.choice(["", "b", "!a\n?"])) for _ in range(count)]
            rule = Rule(rng.randint(0, 3), rng.choice([0, 20]))
            world, commands, told = World(count, rule, patterns), [], []
            for _ in range(40):
                command = drawn_command(rng, world)
                commands.append(command)
                told.append(world.obey(command))
            script = Script(count, rule, patterns, commands)
            before = deepcopy(parts_of(script))
            found = run_script(script)
            self.assertEqual((type(found), len(found), type(found[1])), (tuple, 2, list))
            self.assertIs(type(found[0]), World)
            self.assertEqual(found[1], told)
            self.assertEqual(all_seen(found[0]), all_seen(world))
            self.assertEqual(parts_of(script), before)
            # A text of it does the same.
            self.assertEqual(run_script(parse_script(format_script(script)))[1], told)

    def test_no_commands(self):
        world, told = run_script(script_of())
        self.assertEqual((told, len(world.devices), world.devices[0].rule), ([], 3, Rule(4, 5)))

    def test_an_edit_of_a_name_that_no_user_gives(self):
        for name in ("a~1-1", "~", "b" * 28):
            script = script_of(("edit", 1, name, (1,), 2), ("scan", 1, 3), ("edit", 2, "b", (1,), 2))
            world, told = run_script(script)
            self.assertEqual(told, [False, 0, None])
            self.assertEqual((world.devices[0].store.names(), world.history(), world.user_edits()), ([], [], []))

    def test_an_edit_of_a_copy(self):
        commands = [("edit", 1, "a", (1,), 1), ("edit", 2, "a", (2,), 2), ("edit", 1, "a~1-1", (3,), 3), ("round", 4),
                    ("edit", 1, "a~1-1", (4,), 5), ("edit", 2, "a~1-1", (4,), 5), ("remove", 1, "a~1-1"),
                    ("edit", 1, "a~1-1", (5,), 6)]
        world, told = run_script(script_of(*commands, count=2))
        # Device 2 has no copy yet, and device 1 removed it.
        self.assertEqual(told, [None, None, False, 1, None, False, True, False])
        self.assertEqual(world.user_edits(), [(1, "a~1-1", (257,)), (1, "a~1-1", (260,))])

    def test_a_move_from_a_copy(self):
        commands = [("edit", 1, "a", (1,), 1), ("edit", 2, "a", (2,), 2), ("round", 4), ("move", 1, "a~1-1", "b")]
        self.assertEqual(run_script(script_of(*commands, count=2))[1][3], True)

"""The examples of the document's interface, as they stand."""

import unittest

from folderkin import errors

EXAMPLES = {
    "names": r"""
>>> from folderkin.names import character_of, is_name, is_user_name
>>> [is_name("a/B.txt"), is_name("a b"), is_name(""), is_user_name("a~1-2")]
[True, False, False, False]
>>> [character_of(47), character_of(37)]
['/', None]
""",
    "patterns": r"""
>>> from folderkin.patterns import format_patterns, leaves_out, parse_patterns
>>> patterns = parse_patterns("# kept\n!keep.*\n\n**.[m-pt]?")
>>> [leaves_out(patterns, name) for name in ["a/b.tm", "keep.tm", "a.tmp", "b.o/"]]
[True, False, False, False]
>>> format_patterns(parse_patterns("[!!cab-]"))
raises InvalidPattern(2)
>>> format_patterns(parse_patterns("[cab-]x***"))
raises InvalidPattern(5)
>>> format_patterns(parse_patterns("![dcab~]x**[-.0-9]"))
'![a-d~]x**[-.0-9]'
""",
    "comparing": r"""
>>> from folderkin.comparing import first_difference, is_relation, relation, without_idle
>>> from folderkin.patterns import format_patterns, parse_patterns
>>> first_difference(parse_patterns("*.o"), parse_patterns("**.o"))
'/.o'
>>> relation(parse_patterns("?*"), parse_patterns("*?"))
((((1, 2),), ((0, 1, 2),), 1), (((),), ((),), 1))
>>> format_patterns(without_idle(parse_patterns("ab\n!ab\na*")))
'a*'
""",
    "content": r"""
>>> from folderkin.content import block_bytes, is_blocks, joined, split
>>> split([1, 2, 3, 4, 255])
(4311876356, 511)
>>> joined((263, 67328))
[7, 7, 0]
>>> is_blocks((263, 67328))
False
>>> block_bytes(512)
raises InvalidBlock
""",
    "vectors": r"""
>>> from folderkin.vectors import compare, join, raised
>>> [compare(((1, 4),), ((1, 4), (3, 1))), compare(((1, 4),), ((2, 2),)), join(((1, 4), (2, 1)), ((2, 7),))]
['less', 'apart', ((1, 4), (2, 7))]
>>> raised(((2, 7),), 1, 9)
((1, 9), (2, 7))
""",
    "entries": r"""
>>> from folderkin.entries import copy_name, edited, key_of, winner
>>> first = edited(None, "a", 1, 4, False, 10, (353,))
>>> later = edited(first, "a", 2, 7, False, 3, (354,))
>>> [later.vector, later.height, later.maker, copy_name(later)]
[((1, 4), (2, 7)), 2, (2, 7), 'a~2-7']
>>> other = edited(None, "a", 3, 1, False, 10, (353,))
>>> [winner([first, other]).vector, winner([first, other, later]) == later]
[((1, 4), (3, 1)), True]
""",
    "store": r"""
>>> from folderkin.store import Store, from_durable
>>> store = Store({"a": ([1, 2], 7)}, [])
>>> store.append_temp("b", [5, 6])
>>> store.place("b", 9)
>>> [store.names(), store.read("b"), store.temp("b"), store.done()]
[['a', 'b'], ([5, 6], 9), None, 3]
>>> store.set_budget(1)
>>> store.log_append([3, 4])
raises PowerCut(4)
>>> from_durable(store.durable()).log()
[3]
""",
    "book": r"""
>>> from folderkin.book import Book, record_of, upto_record
>>> from folderkin.entries import Entry
>>> from folderkin.store import Store
>>> upto_record(3, 258)
[0, 6, 2, 3, 0, 0, 1, 2, 15, 81]
>>> store = Store({}, upto_record(3, 258) + [0, 9])
>>> book = Book(store)
>>> [book.upto(3), book.put(Entry("a", ((1, 1),), 1, (1, 1), True, 5, ())), book.next_number(), store.new_log()]
[258, 1, 2, []]
""",
    "coding": r"""
>>> from folderkin.coding import Reader, number_bytes, vector_bytes
>>> vector_bytes(((2, 1), (5, 258)))
[2, 2, 0, 0, 0, 1, 5, 0, 0, 1, 2]
>>> Reader([7, 0, 0, 1, 0, 3, 97, 98, 99], 1).number()
256
>>> Reader([0, 0, 0, 0]).number(1)
raises InvalidBytes(3)
>>> Reader([3, 97, 32, 98]).name()
raises InvalidBytes(2)
""",
    "letters": r"""
>>> from folderkin.letters import decode, decode_all, encode
>>> encode(("request", "a/b", 2, 263))
[4, 3, 97, 47, 98, 2, 1, 7]
>>> decode([5, 2, 0, 9, 1, 8])
('block', 65545, (8,))
>>> decode([3, 0, 0, 0, 4, 0, 0, 0, 4, 0, 0])
('entries', 4, 4, ())
>>> decode([1, 3, 0])
raises InvalidBytes(2)
>>> decode_all([1, 3, 6, 1, 0])
[('hello', 3), ('refused', 256)]
""",
    "lines": r"""
>>> from folderkin.lines import Lines
>>> lines = Lines(3)
>>> [lines.send(1, 2, [5]), lines.send(1, 2, [6, 7]), lines.double(1, 2, 0), lines.swap(1, 2, 1)]
[True, True, True, True]
>>> [lines.waiting(1, 2), lines.take(1, 2, 2), lines.take(2, 1, 0)]
[[[5], [5], [6, 7]], [6, 7], None]
>>> lines.cut(2, 1)
>>> [lines.send(2, 1, []), lines.take(1, 2, 0), lines.connected(), lines.total("lost"), lines.total("waiting")]
[False, None, True, 1, 2]
""",
    "pulling": r"""
>>> from folderkin.content import split
>>> from folderkin.entries import Entry
>>> from folderkin.pulling import Pull, missing
>>> from folderkin.store import Store
>>> store = Store({"old": ([1, 2, 3, 4, 9], 1)}, [])
>>> entry = Entry("new", ((2, 1),), 1, (2, 1), False, 6, split([1, 2, 3, 4, 5, 6, 7, 8, 1, 2, 3, 4]))
>>> missing(store, entry) == list(split([5, 6, 7, 8]))
True
>>> pull = Pull(store, entry)
>>> [pull.advance() == split([5, 6, 7, 8])[0], pull.count(), pull.give(split([5, 6, 7, 8])[0], [5, 6, 7, 8]), pull.advance(), pull.count()]
[True, 1, True, None, 3]
>>> pull.place()
>>> store.read("new")
([1, 2, 3, 4, 5, 6, 7, 8, 1, 2, 3, 4], 6)
""",
    "attic": r"""
>>> from folderkin.attic import Rule, keep, kept
>>> from folderkin.store import Store
>>> store = Store({}, [])
>>> rule = Rule(2, 5)
>>> [keep(store, rule, "a", ((1, 1),), [7, 7]), keep(store, rule, "a", ((1, 2),), [8]), keep(store, rule, "b", ((1, 3),), [9, 9, 9])]
[[], [], [('a', ((1, 1),), [7, 7])]]
>>> kept(store, "a")
[(((1, 2),), [8])]
""",
    "worlds": r"""
>>> from folderkin.attic import Rule
>>> from folderkin.worlds import World, are_alike
>>> world = World(2, Rule(3, 100), [[], []])
>>> world.obey(("edit", 1, "a", (1, 2, 3), 10))
>>> world.obey(("edit", 2, "a", (9,), 20))
>>> [world.obey(("round", 30)), world.obey(("round", 31)), are_alike(world.devices[0], world.devices[1])]
[1, 1, True]
>>> world.devices[0].store.names()
['a', 'a~1-1']
""",
    "judging": r"""
>>> from folderkin.entries import edited
>>> from folderkin.judging import reasons
>>> first = edited(None, "a", 1, 4, False, 10, (353,))
>>> later = edited(first, "a", 2, 7, False, 3, (354,))
>>> reasons([first, later])
(1, (('less', 0, 1, 2), ('alike',)))
""",
    "sealing": r"""
>>> from folderkin.sealing import open_name, seal_content, seal_name
>>> key = (0, 1, 0, 0, 0, 0, 0, 0)
>>> [seal_name("a", key), open_name("b~1-2", key), seal_content([7], key)]
['b', 'a~1-2', [8]]
""",
    "scripts": r"""
>>> from folderkin.scripts import format_script, parse_script, run_script
>>> script = parse_script("# two\nworld 2 3 100\nleave 2 *.o\nedit 1 a 0aff 7\nedit 2 a~1-1 - 8\nround 9")
>>> [script.count, script.commands[0], script.commands[2]]
[2, ('edit', 1, 'a', (10, 255), 7), ('round', 9)]
>>> run_script(script)[1]
[None, False, 1]
>>> format_script(script) == "world 2 3 100\nleave 2 *.o\nedit 1 a 0aff 7\nedit 2 a~1-1 - 8\nround 9"
True
>>> parse_script("world 2 3 100\n\nask 1 1")
raises InvalidScript(2)
""",
    "explaining": r"""
>>> from folderkin.entries import edited
>>> from folderkin.explaining import gone, story
>>> first = edited(None, "a", 1, 1, False, 10, (353,))
>>> later = edited(first, "a", 1, 2, False, 12, ())
>>> history = [(1, "edit", None, first), (1, "edit", first, later)]
>>> [story(history, later), gone(history, 0), gone(history, 1)]
[[1, 0], ('edit', 1), ('stays', -1)]
""",
    "counting": r"""
>>> from folderkin.counting import judge_share, share
>>> offers = {256: (1, 2), 257: (1,), 258: (1,), 259: (2, 3)}
>>> share(offers)[:2]
(2, ((256, 2), (257, 1), (258, 1), (259, 2)))
>>> judge_share(offers, (2, ((256, 2), (257, 1), (258, 1), (259, 3)), (257, 258)))
True
""",
    "oneway": r"""
>>> from folderkin.attic import Rule
>>> from folderkin.oneway import OneWayWorld
>>> world = OneWayWorld(["sender", "receiver"], Rule(3, 100), [[], []])
>>> world.obey(("edit", 1, "a", (1, 2, 3), 10))
>>> world.obey(("round", 20))
1
>>> world.obey(("edit", 2, "a", (9,), 30))
>>> [world.obey(("round", 40)), world.devices[1].strange(), world.devices[0].differing()]
[0, ['a'], []]
>>> [world.obey(("revert", 2)), world.obey(("round", 50)), world.devices[1].store.read("a")]
[1, 1, ([1, 2, 3], 10)]
""",
}


def told(line, names):
    """What a line of an example tells: nothing, a value, or an error."""
    try:
        code = compile(line, "example", "eval")
    except SyntaxError:
        exec(line, names)
        return ""
    try:
        value = eval(code, names)
    except errors.FolderkinError as error:
        return f"raises {type(error).__name__}({error.place})"
    return "" if value is None else repr(value)


def steps_of(text):
    """The pairs of a line and what is told for it."""
    steps = []
    for line in text.strip().split("\n"):
        if line.startswith(">>> "):
            steps.append([line[4:], ""])
        else:
            steps[-1][1] = line
    return steps


class Examples(unittest.TestCase):
    def test_each_example(self):
        for module, text in EXAMPLES.items():
            names = {}
            for line, expected in steps_of(text):
                found = told(line, names)
                if expected.startswith("raises ") and "(" not in expected:
                    found = found.partition("(")[0]
                self.assertEqual(found, expected, (module, line))

    def test_each_example_tells_something(self):
        for module, text in EXAMPLES.items():
            self.assertGreater(len([row for row in steps_of(text) if row[1]]), 0, module)

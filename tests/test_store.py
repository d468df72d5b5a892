import unittest

from folderkin.errors import PowerCut
from folderkin.store import Store, from_durable
from tests.samples import all_of


def filled():
    """A store that keeps something of each kind."""
    store = Store({"a": ([1, 2], 7), "c/d": ([], 0)}, [9, 8])
    store.append_temp("t", [5, 6, 7])
    store.append_temp("a", [1])
    store.attic_put("x", ((1, 2),), [3, 3])
    store.attic_put("x", (), [])
    store.attic_put("b", ((1, 1), (2, 1)), [4])
    store.new_log_append([2])
    return store


# Each kind of call that is one write, over what is there and over what is not.
WRITES = [
    ("write", "a", [7], 3), ("write", "new", [7, 7], 3), ("write", "a", [1, 2], 7), ("remove", "a"),
    ("remove", "none"), ("rename", "a", "z"), ("rename", "a", "c/d"), ("rename", "a", "a"), ("cut_temp", "t", 1),
    ("cut_temp", "t", 0), ("cut_temp", "t", 3), ("cut_temp", "none", 0), ("place", "t", 5), ("place", "none", 5),
    ("attic_put", "x", (), []), ("attic_drop", 1), ("drop_new_log",), ("switch_log",), ("append_temp", "t", [1]),
    ("append_temp", "none", [1]), ("log_append", [1]), ("new_log_append", [1])]


def call(store, row):
    return getattr(store, row[0])(*row[1:])


class Reading(unittest.TestCase):
    def test_a_new_store(self):
        store = Store({"b": ([1, 2], 7), "a/x": ([], 0)}, [9, 8])
        self.assertEqual(store.names(), ["a/x", "b"])
        self.assertEqual(store.read("b"), ([1, 2], 7))
        self.assertEqual(store.read("a/x"), ([], 0))
        self.assertIsNone(store.read("none"))
        self.assertEqual((store.temp_names(), store.attic(), store.log(), store.new_log()), ([], [], [9, 8], []))
        self.assertEqual(store.log_size(), 2)
        self.assertEqual(store.done(), 0)
        self.assertIsNone(store.temp("b"))

    def test_an_empty_store(self):
        self.assertEqual(all_of(Store({}, [])), ([], [], [], [], []))

    def test_names_ascend_as_strings(self):
        names = ["b", "ab", "a", "B", "-", "~", "a/", "a-", "_", "10", "9"]
        store = Store({name: ([], 0) for name in names}, [])
        for name in names:
            store.append_temp(name, [1])
        self.assertEqual(store.names(), ["-", "10", "9", "B", "_", "a", "a-", "a/", "ab", "b", "~"])
        self.assertEqual(store.temp_names(), store.names())

    def test_what_is_read_is_a_pair(self):
        self.assertIs(type(Store({"a": ([], 1)}, []).read("a")), tuple)


class Writing(unittest.TestCase):
    def setUp(self):
        self.store = filled()
        self.before = self.store.done()

    def assert_one_write(self):
        self.assertEqual(self.store.done(), self.before + 1)

    def test_write(self):
        self.assertIsNone(self.store.write("a", [5], 2))
        self.assert_one_write()
        self.assertEqual(self.store.read("a"), ([5], 2))
        self.store.write("b", [], 0)
        self.assertEqual(self.store.names(), ["a", "b", "c/d"])

    def test_remove(self):
        self.assertIsNone(self.store.remove("a"))
        self.assert_one_write()
        self.assertEqual(self.store.names(), ["c/d"])
        self.assertIsNone(self.store.read("a"))
        self.assertEqual(self.store.temp("a"), [1])

    def test_remove_what_is_not_there(self):
        kept = all_of(self.store)
        self.assertIsNone(self.store.remove("t"))
        self.assert_one_write()
        self.assertEqual(all_of(self.store), kept)

    def test_rename(self):
        self.assertIsNone(self.store.rename("a", "b"))
        self.assert_one_write()
        self.assertEqual(self.store.names(), ["b", "c/d"])
        self.assertEqual(self.store.read("b"), ([1, 2], 7))

    def test_rename_onto_another_file(self):
        self.store.rename("a", "c/d")
        self.assert_one_write()
        self.assertEqual(self.store.names(), ["c/d"])
        self.assertEqual(self.store.read("c/d"), ([1, 2], 7))

    def test_rename_to_the_same_name(self):
        kept = all_of(self.store)
        self.store.rename("a", "a")
        self.assert_one_write()
        self.assertEqual(all_of(self.store), kept)

    def test_append_temp(self):
        self.assertIsNone(self.store.append_temp("t", [0, 255]))
        self.assertEqual(self.store.temp("t"), [5, 6, 7, 0, 255])
        self.assertEqual(self.store.done(), self.before + 2)
        self.store.append_temp("new", [1])
        self.assertEqual(self.store.temp_names(), ["a", "new", "t"])
        self.assertEqual(self.store.temp("new"), [1])
        self.assertEqual(self.store.done(), self.before + 3)

    def test_appending_nothing(self):
        kept = all_of(self.store)
        self.store.set_budget(0)
        self.assertIsNone(self.store.append_temp("t", []))
        self.assertIsNone(self.store.append_temp("none", []))
        self.assertIsNone(self.store.log_append([]))
        self.assertIsNone(self.store.new_log_append([]))
        self.assertEqual(self.store.done(), self.before)
        self.assertEqual(all_of(self.store), kept)
        self.assertIsNone(self.store.temp("none"))

    def test_cut_temp(self):
        self.assertIsNone(self.store.cut_temp("t", 2))
        self.assert_one_write()
        self.assertEqual(self.store.temp("t"), [5, 6])
        self.store.cut_temp("t", 2)
        self.store.cut_temp("t", 5)
        self.assertEqual(self.store.temp("t"), [5, 6])
        self.assertEqual(self.store.done(), self.before + 3)

    def test_cut_temp_to_nothing(self):
        self.store.cut_temp("t", 0)
        self.assert_one_write()
        self.assertIsNone(self.store.temp("t"))
        self.assertEqual(self.store.temp_names(), ["a"])

    def test_cut_what_is_not_there(self):
        kept = all_of(self.store)
        self.store.cut_temp("none", 0)
        self.store.cut_temp("none", 3)
        self.assertEqual(self.store.done(), self.before + 2)
        self.assertEqual(all_of(self.store), kept)

    def test_place(self):
        self.assertIsNone(self.store.place("t", 44))
        self.assert_one_write()
        self.assertEqual(self.store.read("t"), ([5, 6, 7], 44))
        self.assertEqual(self.store.temp_names(), ["a"])
        self.store.place("a", 45)
        self.assertEqual(self.store.read("a"), ([1], 45))
        self.assertEqual(self.store.temp_names(), [])

    def test_place_without_a_temporary_file(self):
        self.store.place("c/d", 3)
        self.store.place("none", 4)
        self.assertEqual(self.store.read("c/d"), ([], 3))
        self.assertEqual(self.store.read("none"), ([], 4))
        self.assertEqual(self.store.done(), self.before + 2)

    def test_attic(self):
        rows = [("x", ((1, 2),), [3, 3]), ("x", (), []), ("b", ((1, 1), (2, 1)), [4])]
        self.assertEqual(self.store.attic(), rows)
        self.assertIsNone(self.store.attic_put("x", ((1, 2),), [3, 3]))
        self.assert_one_write()
        self.assertEqual(self.store.attic(), rows + rows[:1])
        self.assertIsNone(self.store.attic_drop(1))
        self.assertEqual(self.store.attic(), [rows[0], rows[2], rows[0]])
        self.store.attic_drop(0)
        self.assertEqual(self.store.attic(), [rows[2], rows[0]])
        self.assertEqual(self.store.done(), self.before + 3)

    def test_dropping_what_does_not_lie_in_the_attic(self):
        kept = all_of(self.store)
        self.store.attic_drop(3)
        self.store.attic_drop(4)
        self.assertEqual(self.store.done(), self.before + 2)
        self.assertEqual(all_of(self.store), kept)

    def test_logs(self):
        self.assertIsNone(self.store.log_append([1, 2, 3]))
        self.assertEqual((self.store.log(), self.store.new_log()), ([9, 8, 1, 2, 3], [2]))
        self.assertIsNone(self.store.new_log_append([4, 5]))
        self.assertEqual((self.store.log(), self.store.new_log()), ([9, 8, 1, 2, 3], [2, 4, 5]))
        self.assertEqual(self.store.done(), self.before + 5)
        self.assertIsNone(self.store.switch_log())
        self.assertEqual((self.store.log(), self.store.new_log()), ([2, 4, 5], []))
        self.assertEqual(self.store.done(), self.before + 6)
        self.assertEqual(self.store.log_size(), 3)
        self.store.new_log_append([7])
        self.assertEqual((self.store.log(), self.store.new_log()), ([2, 4, 5], [7]))
        self.assertIsNone(self.store.drop_new_log())
        self.assertEqual((self.store.log(), self.store.new_log()), ([2, 4, 5], []))
        self.assertEqual(self.store.done(), self.before + 8)

    def test_logs_that_are_empty_already(self):
        self.store.drop_new_log()
        self.store.drop_new_log()
        self.assertEqual(self.store.done(), self.before + 2)
        self.store.switch_log()
        self.store.switch_log()
        self.assertEqual((self.store.log(), self.store.new_log()), ([], []))
        self.assertEqual(self.store.done(), self.before + 4)


class Copying(unittest.TestCase):
    def test_what_is_passed(self):
        content, log, data = [1, 2], [9], [3]
        files = {"a": (content, 7)}
        store = Store(files, log)
        store.write("b", content, 1)
        store.append_temp("t", data)
        store.attic_put("x", (), content)
        store.log_append(data)
        store.new_log_append(data)
        kept = all_of(store)
        content.append(5)
        log.append(5)
        data.append(5)
        files["q"] = ([], 0)
        self.assertEqual(all_of(store), kept)
        store.append_temp("t", [6])
        store.log_append([6])
        store.place("t", 1)
        store.remove("a")
        self.assertEqual((content, log, data), ([1, 2, 5], [9, 5], [3, 5]))
        self.assertEqual(list(files), ["a", "q"])

    def test_what_is_returned(self):
        store = filled()
        kept = all_of(store)
        store.names().append("q")
        store.read("a")[0].append(5)
        store.temp_names().clear()
        store.temp("t").append(5)
        rows = store.attic()
        rows[0][2].append(5)
        rows.clear()
        store.log().append(5)
        store.new_log().append(5)
        self.assertEqual(all_of(store), kept)

    def test_a_placed_content_is_one_of_its_own(self):
        store = Store({}, [])
        store.append_temp("t", [1])
        store.place("t", 1)
        store.append_temp("t", [2])
        self.assertEqual((store.read("t"), store.temp("t")), (([1], 1), [2]))

    def test_stores_share_nothing(self):
        first = filled()
        kept = all_of(first)
        second = from_durable(first.durable())
        for row in WRITES:
            call(second, row)
        self.assertEqual(all_of(first), kept)


class Budgets(unittest.TestCase):
    def test_each_call_is_one_write(self):
        for row in WRITES:
            store = filled()
            before = store.done()
            store.set_budget(1)
            self.assertIsNone(call(store, row), row)
            self.assertEqual(store.done(), before + 1, row)
            with self.assertRaises(PowerCut) as caught:
                store.write("q", [], 0)
            self.assertEqual(caught.exception.place, before + 1)

    def test_nothing_is_done_behind_the_budget(self):
        for row in WRITES:
            store = filled()
            kept, before = all_of(store), store.done()
            store.set_budget(0)
            for _ in range(3):
                with self.assertRaises(PowerCut) as caught:
                    call(store, row)
                self.assertEqual(caught.exception.place, before)
                self.assertEqual(all_of(store), kept, row)
                self.assertEqual(store.done(), before)
            store.set_budget(None)
            call(store, row)
            self.assertEqual(store.done(), before + 1)

    def test_the_power_ends_at_each_write_of_a_row_of_calls(self):
        rows = [
            ("write", "n", [1, 2], 3), ("append_temp", "t", [1, 2, 3]), ("log_append", [4, 5]), ("place", "t", 8),
            ("new_log_append", [6, 7, 8]), ("attic_put", "a", (), [1]), ("remove", "none"), ("switch_log",),
            ("rename", "n", "m"), ("drop_new_log",), ("attic_drop", 0), ("append_temp", "z", [1, 1]),
            ("cut_temp", "z", 1)]
        # The same calls, byte by byte.
        single = []
        for row in rows:
            if row[0].endswith("append") or row[0] == "append_temp":
                single.extend([(*row[:-1], [byte]) for byte in row[-1]])
            else:
                single.append(row)
        for budget in range(len(single) + 2):
            store, expected = filled(), filled()
            before = store.done()
            store.set_budget(budget)
            for row in single[:budget]:
                call(expected, row)
            done = before + min(budget, len(single))
            try:
                for row in rows:
                    call(store, row)
                self.assertGreaterEqual(budget, len(single))
            except PowerCut as cut:
                self.assertLess(budget, len(single))
                self.assertEqual(cut.place, done)
            self.assertEqual(store.done(), done)
            self.assertEqual(all_of(store), all_of(expected))
            self.assertEqual(store.durable(), expected.durable())

    def test_no_budget_at_first(self):
        store = Store({}, [])
        store.log_append([0] * 3000)
        self.assertEqual(store.done(), 3000)

    def test_setting_budgets(self):
        store = Store({}, [])
        self.assertIsNone(store.set_budget(2))
        store.log_append([1])
        store.set_budget(2)
        store.log_append([2, 3])
        with self.assertRaises(PowerCut) as caught:
            store.log_append([4])
        self.assertEqual(caught.exception.place, 3)
        store.set_budget(1)
        store.log_append([5])
        with self.assertRaises(PowerCut) as caught:
            store.remove("a")
        self.assertEqual(caught.exception.place, 4)
        self.assertEqual(store.log(), [1, 2, 3, 5])
        self.assertIsNone(store.set_budget(None))
        store.log_append([6] * 10)
        self.assertEqual(store.done(), 14)

    def test_reading_needs_no_budget(self):
        store = filled()
        kept, before = all_of(store), store.done()
        store.set_budget(0)
        self.assertEqual(all_of(store), kept)
        store.durable()
        self.assertEqual(store.done(), before)


class Durable(unittest.TestCase):
    def assert_plain(self, value):
        self.assertIn(type(value), (tuple, int, str))
        if type(value) is tuple:
            for item in value:
                self.assert_plain(item)

    def test_it_is_made_of_tuples_integers_and_strings(self):
        value = filled().durable()
        self.assertIs(type(value), tuple)
        self.assert_plain(value)
        self.assert_plain(Store({}, []).durable())
        hash(value)

    def test_equal_for_stores_that_keep_the_same(self):
        first = Store({"a": ([1], 1), "b": ([2], 2)}, [3])
        second = Store({}, [])
        second.write("b", [2, 2], 9)
        second.append_temp("b", [2])
        second.place("b", 2)
        second.write("c", [1], 1)
        second.rename("c", "a")
        second.new_log_append([3])
        second.switch_log()
        second.set_budget(4)
        self.assertNotEqual(first.done(), second.done())
        self.assertEqual(first.durable(), second.durable())
        first.append_temp("x", [1])
        first.append_temp("y", [2])
        second.append_temp("y", [2])
        second.append_temp("x", [1])
        self.assertEqual(first.durable(), second.durable())

    def test_each_difference_tells(self):
        base = filled().durable()
        for row in (
            ("write", "a", [1, 2], 8), ("write", "a", [1, 3], 7), ("write", "n", [], 0), ("remove", "c/d"),
            ("rename", "a", "b"), ("append_temp", "t", [1]), ("append_temp", "u", [1]), ("cut_temp", "t", 2),
            ("cut_temp", "a", 0), ("attic_put", "x", (), []), ("attic_drop", 0), ("attic_drop", 2),
            ("log_append", [0]), ("new_log_append", [0]), ("drop_new_log",), ("switch_log",), ("place", "a", 7),
        ):
            store = filled()
            call(store, row)
            self.assertNotEqual(store.durable(), base, row)

    def test_the_order_in_the_attic_tells(self):
        first, second = Store({}, []), Store({}, [])
        first.attic_put("a", (), [1])
        first.attic_put("b", (), [1])
        second.attic_put("b", (), [1])
        second.attic_put("a", (), [1])
        self.assertNotEqual(first.durable(), second.durable())

    def test_bytes_in_one_place_are_not_those_in_another(self):
        stores = [Store({}, []) for _ in range(4)] + [Store({"a": ([1], 1)}, []), Store({"a": ([], 1)}, [1])]
        stores[1].log_append([1])
        stores[2].new_log_append([1])
        stores[3].append_temp("a", [1])
        self.assertEqual(len({store.durable() for store in stores}), 6)

    def test_a_store_of_what_was_kept(self):
        store = filled()
        store.set_budget(0)
        again = from_durable(store.durable())
        self.assertEqual(all_of(again), all_of(store))
        self.assertEqual(again.durable(), store.durable())
        self.assertEqual(again.done(), 0)
        again.log_append([1, 2])
        self.assertEqual(again.done(), 2)
        again.append_temp("t", [8])
        again.attic_drop(0)
        again.new_log_append([3])
        self.assertEqual(again.temp("t"), [5, 6, 7, 8])
        self.assertEqual(len(again.attic()), 2)
        self.assertEqual(again.new_log(), [2, 3])
        self.assertEqual(all_of(store), all_of(filled()))

    def test_an_empty_store_again(self):
        self.assertEqual(all_of(from_durable(Store({}, []).durable())), all_of(Store({}, [])))

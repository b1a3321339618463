"""Libraries: their texts, names, build order, and the limit of diagrams (points 7, 9 and 12)."""

import unittest

from samples import COUNTER, NESTED, USER, chain_texts, diagrams_of, library_of, named
from stepblocks.blocks import Diagram
from stepblocks.compiling import Compiled, compile_diagram
from stepblocks.errors import BadDiagram, BlockError, Cycle, InvalidText, Recursion, UnknownBlock
from stepblocks.library import Draft, Library

EMPTY = "block {}(;)\nend"


def empty_texts(many):
    return [EMPTY.format(named(k)) for k in range(many)]


class EmptyTest(unittest.TestCase):
    def check_empty(self, library):
        self.assertIsInstance(library, Library)
        self.assertEqual((library.names, library.rebuilt, str(library)), ((), (), ""))
        self.assertEqual(list(library.build_order()), [])
        for name in ("counter", "add", ""):
            for method in (library.diagram, library.compiled):
                with self.assertRaises(UnknownBlock) as caught:
                    method(name)
                self.assertEqual(caught.exception.name, name)
                self.assertIsInstance(caught.exception, BlockError)

    def test_empty_libraries(self):
        self.check_empty(Library())
        self.check_empty(Library.parse(""))
        self.check_empty(Library.parse(text=""))

    def test_libraries_share_nothing(self):
        one, other = Library(), Library()
        one.change(diagrams_of(COUNTER), [])
        self.check_empty(other)
        self.check_empty(Library())

    def test_limit_is_told(self):
        self.assertEqual((Library.MAX_DIAGRAMS, Library().MAX_DIAGRAMS), (24, 24))


class ParseTest(unittest.TestCase):
    def test_what_a_library_tells(self):
        library = Library.parse(USER + "\n" + COUNTER)
        self.assertEqual((library.names, library.rebuilt), (("counter", "user"), ("counter", "user")))
        self.assertIsInstance(library.names, tuple)
        self.assertIsInstance(library.rebuilt, tuple)
        self.assertIsInstance(library.diagram("user"), Diagram)
        self.assertTrue(library.diagram(name="user") == Diagram.parse(USER))
        self.assertTrue(library.diagram("counter") == Diagram.parse(COUNTER))
        found = library.compiled(name="counter")
        self.assertIsInstance(found, Compiled)
        expected = compile_diagram(Diagram.parse(COUNTER), {})
        self.assertEqual((found.interface, found.steps, found.end), (expected.interface, expected.steps, expected.end))
        found = library.compiled("user")
        expected = compile_diagram(Diagram.parse(USER), {"counter": expected.interface})
        self.assertEqual((found.interface, found.steps, found.end), (expected.interface, expected.steps, expected.end))

    def test_names_of_others_are_unknown(self):
        library = library_of(COUNTER)
        for name in ("user", "add", "delay 0", "count", "Counter", ""):
            with self.assertRaises(UnknownBlock) as caught:
                library.diagram(name)
            self.assertEqual(caught.exception.name, name)
            with self.assertRaises(UnknownBlock) as caught:
                library.compiled(name)
            self.assertEqual(caught.exception.name, name)

    def test_any_order_of_diagrams_and_of_wires(self):
        texts = NESTED.split("\nend\n")
        texts = [text + "\nend" for text in texts[:-1]] + texts[-1:]
        self.assertEqual([text.split("(")[0] for text in texts], ["block inner", "block middle", "block top"])
        for order in ((0, 1, 2), (0, 2, 1), (1, 0, 2), (1, 2, 0), (2, 0, 1), (2, 1, 0)):
            for turned in (False, True):
                rows = [texts[k].split("\n") for k in order]
                if turned:
                    rows = [[row for row in one if "<-" not in row][:-1] + [row for row in one if "<-" in row][::-1]
                            + ["end"] for one in rows]
                library = library_of(*["\n".join(one) for one in rows])
                self.assertEqual(str(library), NESTED)
                self.assertEqual(library.rebuilt, ("inner", "middle", "top"))

    def test_text_is_by_ascending_names_and_is_read_again(self):
        library = library_of(USER, COUNTER, *chain_texts(3))
        text = str(library)
        self.assertEqual(text, "\n".join([COUNTER, *chain_texts(3), USER]))
        again = Library.parse(text)
        self.assertEqual((str(again), again.names), (text, ("counter", "naa", "nab", "nac", "user")))
        for name in library.names:
            self.assertTrue(library.diagram(name) == again.diagram(name))
            one, other = library.compiled(name), again.compiled(name)
            self.assertEqual((one.interface, one.steps, one.end), (other.interface, other.steps, other.end))

    def test_twenty_four_diagrams(self):
        library = library_of(*empty_texts(24))
        self.assertEqual(library.names, tuple(named(k) for k in range(24)))
        self.assertEqual(Library.parse(str(library)).names, library.names)

    def test_twenty_four_deep(self):
        texts = chain_texts(24)
        names = tuple(named(k) for k in range(24))
        for order in (texts, texts[::-1]):
            library = library_of(*order)
            self.assertEqual((library.names, library.rebuilt), (names, names))
            self.assertEqual(library.compiled(names[-1]).profile, ((("o",), ()),))


class WrongTextTest(unittest.TestCase):
    def refuse(self, text, row):
        with self.assertRaises(InvalidText, msg=text[-100:]) as caught:
            Library.parse(text)
        self.assertEqual(caught.exception.row, row, text[-100:])

    def test_rows_are_counted_in_the_whole_text(self):
        self.refuse(COUNTER + "\n" + USER.replace("part one", "Part one"), 10)
        self.refuse(COUNTER + "\n" + USER.replace("x <- one.total", "y <- one.total"), 12)
        self.refuse(USER + "\n" + COUNTER + "\nend", 14)
        self.refuse(COUNTER.replace("sum.a <- old.out", "old.in <- old.out") + "\n" + USER, 4)

    def test_single_wrong_texts(self):
        self.refuse(" ", 0)
        self.refuse("end", 0)
        self.refuse("block x(;) \nend", 0)
        self.refuse("\n" + COUNTER, 0)
        self.refuse("\n", 0)
        self.refuse("\n\n", 0)

    def test_rows_between_and_behind(self):
        self.refuse(COUNTER + "\n", 9)
        self.refuse(COUNTER + "\n\n" + USER, 9)
        self.refuse(COUNTER + "\n" + USER + "\n", 14)
        self.refuse(COUNTER + "\n ", 9)
        self.refuse(COUNTER + "\r\n" + USER, 8)
        self.refuse(COUNTER + " " + USER, 8)

    def test_rows_that_lack(self):
        self.refuse("block x(;)", 1)
        self.refuse(COUNTER + "\n" + USER.removesuffix("\nend"), 13)
        self.refuse(COUNTER + "\nblock x(a; b)", 10)
        self.refuse(COUNTER.removesuffix("\nend") + "\n" + USER, 8)

    def test_second_head_of_the_same_name(self):
        self.refuse(COUNTER + "\n" + COUNTER, 9)
        self.refuse(COUNTER + "\n" + USER + "\n" + EMPTY.format("counter"), 14)
        self.refuse(COUNTER + "\n" + USER + "\nblock counter(;)", 14)
        self.refuse(USER + "\n" + USER, 5)

    def test_twenty_fifth_head(self):
        self.refuse("\n".join(empty_texts(25)), 48)
        self.refuse("\n".join([*empty_texts(24), "block x(;)"]), 48)
        self.refuse("\n".join([*empty_texts(24), ""]), 48)
        self.refuse("\n".join([*empty_texts(23), "block x(;)"]), 47)

    def test_wrong_rows_come_before_the_errors_of_commit(self):
        lonely = "block x(;)\n  part p = missing\nend"
        self.refuse(lonely + "\n" + lonely, 3)
        self.refuse(lonely + "\nfin", 3)
        self.refuse("\n".join([lonely, *empty_texts(24)]), 49)
        with self.assertRaises(UnknownBlock) as caught:
            Library.parse(lonely)
        self.assertEqual(caught.exception.name, "missing")


class CommitErrorsTest(unittest.TestCase):
    def test_each_error_of_commit(self):
        with self.assertRaises(UnknownBlock) as caught:
            Library.parse(USER)
        self.assertEqual(caught.exception.name, "counter")
        with self.assertRaises(Recursion) as caught:
            Library.parse("block x(;)\n  part p = x\nend")
        self.assertEqual(caught.exception.chain, ["x"])
        with self.assertRaises(BadDiagram) as caught:
            Library.parse(COUNTER.replace("sum.b <- up", "sum.c <- up"))
        error = caught.exception
        self.assertEqual((error.name, error.port, error.reason), ("counter", ("sum", "c"), "unknown port"))
        with self.assertRaises(Cycle) as caught:
            Library.parse(COUNTER + "\n" + USER.replace("up <- one.count", "up <- one.total"))
        self.assertEqual((caught.exception.name, caught.exception.cycle), ("user", [("one", 1)]))


class BuildOrderTest(unittest.TestCase):
    def library(self):
        """Return a library in which the smallest names come late."""
        return library_of("block a(;)\n  part p = c\n  part q = d\nend", "block b(;)\n  part p = e\nend",
                          EMPTY.format("c"), "block d(;)\n  part p = f\n  part q = f\nend", EMPTY.format("e"),
                          EMPTY.format("f"), "block g(;)\n  part p = b\n  part q = a\nend")

    def test_next_one_is_the_smallest(self):
        library = self.library()
        self.assertEqual(list(library.build_order()), ["c", "e", "b", "f", "d", "a", "g"])
        self.assertEqual(library.rebuilt, ("c", "e", "b", "f", "d", "a", "g"))

    def test_several_at_once(self):
        library = self.library()
        one, other = library.build_order(), library.build_order()
        self.assertEqual([next(one), next(one), next(other), next(one), next(other)], ["c", "e", "c", "b", "e"])
        self.assertEqual((list(one), list(other)), (["f", "d", "a", "g"], ["b", "f", "d", "a", "g"]))
        self.assertEqual(list(one), [])

    def test_library_is_edited_in_between(self):
        library = self.library()
        early, begun = library.build_order(), library.build_order()
        self.assertEqual(next(begun), "c")
        library.change(diagrams_of(EMPTY.format("a"), EMPTY.format("aa")), ["g", "b"])
        late = library.build_order()
        library.change([], ["aa"])
        self.assertEqual(list(begun), ["e", "b", "f", "d", "a", "g"])
        self.assertEqual(list(early), ["a", "c", "e", "f", "d"])
        self.assertEqual(list(late), ["a", "c", "e", "f", "d"])

    def test_library_is_edited_while_it_is_iterated_over(self):
        library, seen = self.library(), []
        for name in library.build_order():
            seen.append(name)
            if name == "f":
                library.change(diagrams_of(EMPTY.format("zz")), ["g", "a"])
        self.assertEqual(seen, ["c", "e", "b", "f", "d", "a", "g"])
        self.assertEqual(list(library.build_order()), ["c", "e", "b", "f", "d", "zz"])

    def test_it_is_not_the_order_of_the_names(self):
        library = library_of(*chain_texts(5)[::-1])
        self.assertEqual(list(library.build_order()), ["naa", "nab", "nac", "nad", "nae"])
        library = library_of("block a(;)\n  part p = b\nend", "block b(;)\n  part p = c\nend", EMPTY.format("c"))
        self.assertEqual(list(library.build_order()), ["c", "b", "a"])

    def test_draft_is_an_own_kind(self):
        self.assertIsInstance(Library().draft(), Draft)


if __name__ == "__main__":
    unittest.main()

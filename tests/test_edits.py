"""Edits of libraries: what they compile, what they refuse, and drafts (points 10, 12 and 13)."""

import unittest

from samples import COUNTER, NESTED, USER, chain_texts, diagrams_of, library_of, named
from stepblocks.blocks import Diagram
from stepblocks.errors import (BadDiagram, BlockError, Cycle, DraftClosed, LibraryFull, Recursion, Stale,
                               UnknownBlock)
from stepblocks.library import Library

EMPTY = "block {}(;)\nend"


def told(library):
    """Return all that a library tells."""
    codes = [(name, library.compiled(name).interface, library.compiled(name).steps, library.compiled(name).end)
             for name in library.names]
    return str(library), library.names, library.rebuilt, list(library.build_order()), codes


def empties(first, many):
    return diagrams_of(*[EMPTY.format(named(k)) for k in range(first, first + many)])


class EditCase(unittest.TestCase):
    def assert_as_new(self, library):
        """Check that a library is the same as a new one with the same diagrams."""
        again = Library.parse(str(library))
        self.assertEqual(told(again)[:2] + told(again)[3:], told(library)[:2] + told(library)[3:])

    def refuse(self, library, puts, drops, kind, **attributes):
        """Check that an edit is refused, by a change as by a draft, and changes nothing."""
        before, draft = told(library), library.draft()
        with self.assertRaises(kind) as caught:
            library.change(puts, drops)
        self.assertIsInstance(caught.exception, BlockError)
        self.assertEqual(vars(caught.exception), attributes)
        self.assertEqual(told(library), before)
        for name in drops:
            draft.drop(name)
        for diagram in puts:
            draft.put(diagram)
        for _ in range(2):
            with self.assertRaises(kind) as caught:
                draft.commit()
            self.assertEqual(vars(caught.exception), attributes)
            self.assertIs(draft.is_open, True)
        self.assertEqual(told(library), before)


class RebuiltTest(EditCase):
    def test_example_of_the_document(self):
        library = Library()
        first = library.change(diagrams_of(USER, COUNTER), [])
        second = library.change(diagrams_of(COUNTER.replace("delay 0", "delay 1")), [])
        self.assertEqual([first, second, library.names],
                         [("counter", "user"), ("counter",), ("counter", "user")])
        self.assertEqual(library.rebuilt, ("counter",))
        self.assert_as_new(library)

    def test_arguments_by_name(self):
        library = Library()
        self.assertEqual(library.change(puts=diagrams_of(COUNTER), drops=[]), ("counter",))
        self.assertEqual(library.change(drops=["counter"], puts=[]), ())
        self.assertEqual((library.names, library.rebuilt), ((), ()))

    def test_lists_stay_as_they_were(self):
        puts, drops = diagrams_of(USER), ["counter"]
        library = library_of(COUNTER)
        with self.assertRaises(UnknownBlock):
            library.change(puts, drops)
        puts += diagrams_of(COUNTER)
        self.assertEqual(library.change(puts, drops), ("user",))
        self.assertEqual((len(puts), drops), (2, ["counter"]))
        puts.clear()
        self.assertEqual(library.names, ("counter", "user"))

    def test_equal_diagrams_compile_nothing(self):
        library = library_of(NESTED)
        self.assertEqual(library.change([library.diagram(name) for name in library.names], []), ())
        self.assertEqual(library.change(diagrams_of(*NESTED.replace("\nend\n", "\nend|").split("|")), []), ())
        self.assertEqual(library.change([], []), ())
        self.assertEqual(library.rebuilt, ())
        self.assert_as_new(library)

    def test_dropped_and_put_again(self):
        library = library_of(COUNTER, USER)
        self.assertEqual(library.change(diagrams_of(COUNTER), ["counter"]), ())
        self.assertEqual(library.change(diagrams_of(COUNTER, USER), ["user", "counter"]), ())
        self.assertEqual(library.change([], ["user"]), ())
        self.assertEqual(library.change(diagrams_of(USER), []), ("user",))

    def test_the_last_diagram_of_a_name_counts(self):
        library, other = Library(), COUNTER.replace("delay 0", "delay 7")
        self.assertEqual(library.change(diagrams_of(COUNTER, other), []), ("counter",))
        self.assertTrue(library.diagram("counter") == Diagram.parse(other))
        self.assertEqual(library.change(diagrams_of(COUNTER, other), []), ())

    def test_inside_of_a_block_with_the_same_profile(self):
        library = library_of(NESTED)
        inner = str(library.diagram("inner")).replace("delay 5", "delay 6").replace("= add", "= mul")
        self.assertEqual(library.change(diagrams_of(inner), []), ("inner",))
        self.assert_as_new(library)

    def test_other_profiles_are_handed_on_as_far_as_they_differ(self):
        inner = "block a(x y; o)\n  part d = delay 0\n  d.in <- y\n  o <- {}\nend"
        library = library_of(inner.format("x"), "block b(x; o)\n  part p = a\n  p.x <- x\n  p.y <- x\n  o <- p.o\nend",
                             "block c(x; o)\n  part p = b\n  p.x <- x\n  o <- p.o\nend", EMPTY.format("d"))
        # Then b is compiled, but has the profile that it had.
        self.assertEqual(library.change(diagrams_of(inner.format("y")), []), ("a", "b"))
        self.assertEqual(library.compiled("b").profile, ((("o",), ("x",)),))
        self.assert_as_new(library)
        # Then nothing is needed, and all that use it are compiled.
        self.assertEqual(library.change(diagrams_of(inner.format("d.out")), []), ("a", "b", "c"))
        self.assertEqual(library.compiled("c").profile, ((("o",), ()),))
        self.assert_as_new(library)

    def test_edit_that_makes_a_ring_around_a_part(self):
        library = library_of(NESTED)
        # Then sum needs b, too, which is wired to sum.
        inner = str(library.diagram("inner")).replace("s.b <- d.out", "s.b <- b")
        self.refuse(library, diagrams_of(inner), [], Cycle, name="middle", cycle=[("first", 0)])
        middle = str(library.diagram("middle")).replace("first.b <- first.sum", "first.b <- first.old")
        self.assertEqual(library.change(diagrams_of(inner, middle), []), ("inner", "middle", "top"))
        self.assert_as_new(library)

    def test_other_order_of_inputs_is_no_other_profile(self):
        library = library_of("block a(x y; o)\n  o <- x\nend",
                             "block b(x; o)\n  part p = a\n  p.x <- x\n  p.y <- x\n  o <- p.o\nend")
        self.assertEqual(library.change(diagrams_of("block a(y x; o)\n  o <- x\nend"), []), ("a",))
        self.assert_as_new(library)

    def test_other_order_of_outputs_may_be_another_profile(self):
        text = "block a(x; p q r)\n  part d = delay 0\n  d.in <- x\n  p <- x\n  q <- d.out\n  r <- x\nend"
        library = library_of(text, "block b(x;)\n  part p = a\n  p.x <- x\nend")
        other = "block a(x; p r q)\n  part d = delay 0\n  d.in <- x\n  p <- x\n  r <- x\n  q <- d.out\nend"
        self.assertEqual(library.change(diagrams_of(other), []), ("a",))
        other = "block a(x; r p q)\n  part d = delay 0\n  d.in <- x\n  r <- x\n  p <- x\n  q <- d.out\nend"
        self.assertEqual(library.change(diagrams_of(other), []), ("a", "b"))
        self.assert_as_new(library)

    def test_new_user_of_an_old_diagram(self):
        library = library_of(COUNTER)
        self.assertEqual(library.change(diagrams_of(USER), []), ("user",))
        self.assertEqual(library.change(diagrams_of(USER.replace("user", "again")), []), ("again",))
        self.assertEqual(library.change([], ["again", "user"]), ())
        self.assertEqual(library.names, ("counter",))

    def test_rebuilt_is_in_build_order(self):
        library = library_of("block a(;)\n  part p = c\nend", "block b(;)\nend", "block c(;)\nend")
        self.assertEqual(library.rebuilt, ("b", "c", "a"))
        puts = diagrams_of("block a(;)\n  part p = c\n  part q = c\nend", "block c(;)\n  part q = b\nend")
        self.assertEqual(library.change(puts, []), ("c", "a"))

    def test_what_was_told_stays_as_it_was(self):
        library = library_of(COUNTER, USER)
        compiled, diagram, names, rebuilt = (library.compiled("counter"), library.diagram("counter"), library.names,
                                             library.rebuilt)
        before = (compiled.interface, compiled.steps, compiled.end, str(diagram), names, rebuilt)
        library.change(diagrams_of(COUNTER.replace("sum.b <- up", "sum.b <- old.out")), [])
        library.change([], ["user"])
        self.assertEqual((compiled.interface, compiled.steps, compiled.end, str(diagram), names, rebuilt), before)
        self.assertNotEqual(library.compiled("counter").end, compiled.end)


class OneErrorTest(EditCase):
    def test_unknown_block(self):
        library = library_of(COUNTER)
        self.refuse(library, diagrams_of("block x(;)\n  part a = add\n  part b = more\n  part c = less\nend"), [],
                    UnknownBlock, name="more")
        self.refuse(library_of(COUNTER, USER), [], ["counter"], UnknownBlock, name="counter")
        two = diagrams_of("block z(;)\n  part p = aaa\nend", "block y(;)\n  part p = ccc\n  part q = bbb\nend")
        self.refuse(library, two, [], UnknownBlock, name="ccc")

    def test_recursion(self):
        library = library_of(COUNTER)
        self.refuse(library, diagrams_of("block x(;)\n  part p = x\nend"), [], Recursion, chain=["x"])

    def test_recursion_chain(self):
        library = library_of(EMPTY.format("e"))
        texts = ("block a(;)\n  part p = e\n  part q = b\nend", "block b(;)\n  part q = c\nend",
                 "block c(;)\n  part p = e\n  part q = d\nend", "block d(;)\n  part p = e\n  part q = c\nend")
        for order in (texts, texts[::-1]):
            with self.assertRaises(Recursion) as caught:
                library.change(diagrams_of(*order), [])
            self.assertIn(caught.exception.chain, (["c", "d"], ["d", "c"]))
            self.assertIsInstance(caught.exception.chain, list)
        ring = ["block {}(;)\n  part p = {}\nend".format(named(k), named((k + 1) % 24)) for k in range(24)]
        with self.assertRaises(Recursion) as caught:
            Library.parse("\n".join(ring))
        chain = caught.exception.chain
        at = chain.index(named(0))
        self.assertEqual(chain[at:] + chain[:at], [named(k) for k in range(24)])

    def test_bad_diagram(self):
        library = library_of(COUNTER)
        for old, new, port, reason in (("one.up <-", "one.down <-", ("one", "down"), "unknown port"),
                                       ("<- one.count", "<- one.up", ("one", "up"), "unknown port"),
                                       ("  one.up <- one.count\n", "", ("one", "up"), "no source"),
                                       ("  x <- one.total\n", "", ("", "x"), "no source")):
            self.refuse(library, diagrams_of(USER.replace(old, new)), [], BadDiagram, name="user", port=port,
                        reason=reason)

    def test_edit_inside_makes_a_user_bad(self):
        library = library_of(COUNTER, USER)
        other = COUNTER.replace("total", "sum")
        self.refuse(library, diagrams_of(other), [], BadDiagram, name="user", port=("one", "total"),
                    reason="unknown port")
        other = COUNTER.replace("(up;", "(up down;")
        self.refuse(library, diagrams_of(other), [], BadDiagram, name="user", port=("one", "down"),
                    reason="no source")

    def test_cycle(self):
        library = library_of(COUNTER, USER)
        other = COUNTER.replace("count <- old.out", "count <- sum.out")
        self.refuse(library, diagrams_of(other), [], Cycle, name="user", cycle=[("one", 0)])
        self.refuse(library, diagrams_of(USER.replace("one.count", "one.total")), [], Cycle, name="user",
                    cycle=[("one", 1)])

    def test_cycle_in_parts_that_no_output_uses(self):
        text = "block x(;)\n  part a = add\n  part b = add\n  a.a <- b.out\n  a.b <- b.out\n  b.a <- a.out\n" \
               "  b.b <- a.out\nend"
        with self.assertRaises(Cycle) as caught:
            Library.parse(text)
        self.assertIn(caught.exception.cycle, ([("a", 0), ("b", 0)], [("b", 0), ("a", 0)]))

    def test_library_full(self):
        library = Library()
        self.refuse(library, empties(0, 25), [], LibraryFull)
        library.change(empties(0, 24), [])
        self.refuse(library, empties(24, 1), [], LibraryFull)
        self.assertEqual(library.change(empties(24, 1), [named(3)]), (named(24),))
        self.assertEqual(library.change(empties(0, 3), []), ())
        self.refuse(library, empties(3, 1), [], LibraryFull)

    def test_unknown_names_to_drop(self):
        library = library_of(COUNTER, USER)
        for drops, name in ((["x"], "x"), (["user", "user"], "user"), (["user", "y", "z"], "y"), (["add"], "add")):
            before = told(library)
            with self.assertRaises(UnknownBlock) as caught:
                library.change([], drops)
            self.assertEqual((caught.exception.name, told(library)), (name, before))

    def test_names_that_are_put_cannot_be_dropped_by_the_same_change(self):
        library = library_of(COUNTER)
        with self.assertRaises(UnknownBlock) as caught:
            library.change(diagrams_of(USER), ["user"])
        self.assertEqual(caught.exception.name, "user")


class OrderOfErrorsTest(EditCase):
    """Several faults at once: the one that the document lists first is told."""

    LOST = "block {}(;)\n  part p = nowhere\nend"
    ROUND = "block {0}(;)\n  part p = {0}\nend"
    BAD = "block {}(; o)\nend"
    LOOP = "block {}(;)\n  part p = add\n  p.a <- p.out\n  p.b <- p.out\nend"

    def test_full_comes_first(self):
        texts = [text.format(name) for text, name in ((self.LOST, "a"), (self.ROUND, "b"), (self.BAD, "c"),
                                                      (self.LOOP, "d"))]
        self.refuse(Library(), diagrams_of(*texts) + empties(0, 21), [], LibraryFull)
        self.refuse(Library(), diagrams_of(*texts) + empties(0, 20), [], UnknownBlock, name="nowhere")

    def test_kinds_come_before_names(self):
        for names in ("abcd", "dcba", "bdac"):
            lost, ring, bad, loop = [text.format(name) for text, name in zip(
                (self.LOST, self.ROUND, self.BAD, self.LOOP), names)]
            library = library_of(COUNTER)
            self.refuse(library, diagrams_of(loop, bad, ring, lost), [], UnknownBlock, name="nowhere")
            self.refuse(library, diagrams_of(loop, bad, ring), [], Recursion, chain=[names[1]])
            self.refuse(library, diagrams_of(loop, bad), [], BadDiagram, name=names[2], port=("", "o"),
                        reason="no source")
            self.refuse(library, diagrams_of(loop), [], Cycle, name=names[3], cycle=[("p", 0)])

    def test_unknown_blocks_by_names_and_then_by_parts(self):
        texts = ["block c(;)\n  part p = first\nend", "block b(;)\n  part p = c\n  part z = third\n  part a = second\nend"]
        for order in (texts, texts[::-1]):
            self.refuse(Library(), diagrams_of(*order), [], UnknownBlock, name="third")

    def test_bad_diagrams_by_names(self):
        texts = ["block b(i; o)\n  o <- i\nend", "block c(; o)\nend",
                 "block d(;)\n  part p = b\n  p.x <- p.o\nend"]
        self.refuse(Library(), diagrams_of(*texts[::-1]), [], BadDiagram, name="c", port=("", "o"),
                    reason="no source")

    def test_unknown_ports_come_before_missing_sources(self):
        text = "block d(; o)\n  part p = add\n  p.a <- p.sum\nend"
        self.refuse(Library(), diagrams_of(text), [], BadDiagram, name="d", port=("p", "sum"), reason="unknown port")
        text = "block d(; o)\n  part p = add\n  p.c <- p.out\nend"
        self.refuse(Library(), diagrams_of(text), [], BadDiagram, name="d", port=("p", "c"), reason="unknown port")

    def test_bad_diagrams_come_before_cycles_of_their_parts(self):
        texts = [self.LOOP.format("a"), "block b(;)\n  part p = a\n  part q = sub\nend"]
        with self.assertRaises(BadDiagram) as caught:
            Library().change(diagrams_of(*texts), [])
        self.assertEqual((caught.exception.name, caught.exception.reason), ("b", "no source"))

    def test_cycles_are_found_in_build_order(self):
        user = "block a(;)\n  part p = z\n  p.i <- p.o\nend"
        wire = "block z(i; o)\n  o <- i\nend"
        loop = self.LOOP.format("y")
        self.refuse(Library(), diagrams_of(user, wire, loop), [], Cycle, name="y", cycle=[("p", 0)])
        self.refuse(Library(), diagrams_of(user, wire), [], Cycle, name="a", cycle=[("p", 0)])
        loop = loop.replace("block y", "block zz")
        self.refuse(Library(), diagrams_of(user, wire, loop), [], Cycle, name="a", cycle=[("p", 0)])

    def test_names_to_drop_come_before_all(self):
        library = library_of(COUNTER, USER)
        bad = diagrams_of(self.LOST.format("a"), self.ROUND.format("b"), self.BAD.format("c"))
        with self.assertRaises(UnknownBlock) as caught:
            library.change(bad + empties(0, 24), ["counter", "x", "counter"])
        self.assertEqual(caught.exception.name, "x")


class DraftTest(EditCase):
    def test_put_drop_and_commit(self):
        library = library_of(COUNTER)
        draft = library.draft()
        self.assertIs(draft.is_open, True)
        self.assertIs(draft.put(Diagram.parse(USER)), None)
        self.assertIs(draft.put(diagram=Diagram.parse(EMPTY.format("x"))), None)
        self.assertIs(draft.drop("x"), None)
        self.assertEqual((library.names, library.rebuilt), (("counter",), ("counter",)))
        self.assertIs(draft.commit(), None)
        self.assertIs(draft.is_open, False)
        self.assertEqual((library.names, library.rebuilt), (("counter", "user"), ("user",)))
        self.assert_as_new(library)

    def test_drop_looks_at_the_changes_so_far(self):
        library = library_of(COUNTER)
        draft = library.draft()
        for name in ("user", "x", "add", ""):
            with self.assertRaises(UnknownBlock) as caught:
                draft.drop(name=name)
            self.assertEqual(caught.exception.name, name)
        draft.drop("counter")
        with self.assertRaises(UnknownBlock):
            draft.drop("counter")
        draft.put(Diagram.parse(COUNTER))
        draft.drop("counter")
        draft.put(Diagram.parse(EMPTY.format("x")))
        draft.commit()
        self.assertEqual((library.names, library.rebuilt), (("x",), ("x",)))

    def test_drop_looks_at_the_library_as_it_was(self):
        library = library_of(COUNTER)
        draft = library.draft()
        library.change(diagrams_of(EMPTY.format("x")), ["counter"])
        draft.drop("counter")
        with self.assertRaises(UnknownBlock) as caught:
            draft.drop("x")
        self.assertEqual(caught.exception.name, "x")
        with self.assertRaises(Stale):
            draft.commit()
        self.assertEqual(library.names, ("x",))

    def test_closed_drafts(self):
        library = library_of(COUNTER)
        one, other = library.draft(), library.draft()
        one.put(Diagram.parse(USER))
        self.assertIs(one.close(), None)
        other.commit()
        for draft in (one, other):
            self.assertIs(draft.is_open, False)
            for call in (lambda: draft.put(Diagram.parse(USER)), lambda: draft.drop("counter"),
                         lambda: draft.drop("nothing"), draft.commit):
                with self.assertRaises(DraftClosed):
                    call()
            draft.close()
            self.assertIs(draft.is_open, False)
        self.assertEqual(library.names, ("counter",))

    def test_closed_comes_before_all_errors(self):
        library = library_of(COUNTER)
        draft = library.draft()
        for diagram in empties(0, 30):
            draft.put(diagram)
        draft.put(Diagram.parse("block x(;)\n  part p = nowhere\nend"))
        library.change([], [])
        with self.assertRaises(Stale):
            draft.commit()
        draft.close()
        with self.assertRaises(DraftClosed):
            draft.commit()

    def test_stale_comes_before_the_faults_of_diagrams(self):
        library = library_of(COUNTER)
        drafts = [library.draft() for _ in range(3)]
        for diagram in empties(0, 30):
            drafts[0].put(diagram)
        drafts[1].put(Diagram.parse("block x(;)\n  part p = nowhere\nend"))
        drafts[2].commit()
        before = told(library)
        for draft in drafts[:2]:
            for _ in range(2):
                with self.assertRaises(Stale):
                    draft.commit()
                self.assertIs(draft.is_open, True)
        self.assertEqual(told(library), before)

    def test_several_drafts(self):
        library = library_of(COUNTER)
        one, other = library.draft(), library.draft()
        one.put(Diagram.parse(EMPTY.format("x")))
        other.put(Diagram.parse(EMPTY.format("y")))
        with self.assertRaises(UnknownBlock):
            other.drop("x")
        other.commit()
        self.assertEqual(library.names, ("counter", "y"))
        with self.assertRaises(Stale):
            one.commit()
        later = library.draft()
        later.drop("y")
        later.commit()
        self.assertEqual((library.names, library.rebuilt), (("counter",), ()))
        with self.assertRaises(Stale):
            one.commit()
        self.assertIs(one.is_open, True)

    def test_only_commits_of_the_same_library_make_drafts_stale(self):
        library, other = library_of(COUNTER), library_of(COUNTER)
        draft, closed, refused = library.draft(), library.draft(), library.draft()
        other.change(diagrams_of(USER), [])
        closed.drop("counter")
        closed.close()
        refused.put(Diagram.parse("block x(;)\n  part p = nowhere\nend"))
        with self.assertRaises(UnknownBlock):
            refused.commit()
        with self.assertRaises(UnknownBlock):
            library.change([], ["x"])
        draft.put(Diagram.parse(USER))
        draft.commit()
        self.assertEqual(library.names, ("counter", "user"))

    def test_empty_commits_and_changes_make_drafts_stale(self):
        for change in (lambda library: library.change([], []), lambda library: library.draft().commit()):
            library = library_of(COUNTER)
            draft = library.draft()
            change(library)
            self.assertEqual(library.rebuilt, ())
            with self.assertRaises(Stale):
                draft.commit()

    def test_refused_drafts_go_on(self):
        library = library_of(COUNTER)
        draft = library.draft()
        draft.put(Diagram.parse("block x(;)\n  part p = user\n  part q = y\nend"))
        with self.assertRaises(UnknownBlock) as caught:
            draft.commit()
        self.assertEqual(caught.exception.name, "user")
        draft.put(Diagram.parse(USER))
        with self.assertRaises(UnknownBlock) as caught:
            draft.commit()
        self.assertEqual(caught.exception.name, "y")
        draft.put(Diagram.parse("block y(;)\n  part p = x\nend"))
        with self.assertRaises(Recursion):
            draft.commit()
        draft.put(Diagram.parse(EMPTY.format("y")))
        draft.commit()
        self.assertEqual(library.rebuilt, ("user", "y", "x"))
        self.assert_as_new(library)

    def test_more_than_twenty_four_for_a_while(self):
        library = library_of(*chain_texts(24))
        draft = library.draft()
        for diagram in empties(24, 20):
            draft.put(diagram)
        with self.assertRaises(LibraryFull):
            draft.commit()
        self.assertIs(draft.is_open, True)
        for k in range(4, 23):
            draft.drop(named(k))
        draft.drop(named(23))
        draft.commit()
        self.assertEqual(len(library.names), 24)

    def test_with(self):
        library = library_of(COUNTER)
        with library.draft() as draft:
            self.assertIs(draft.is_open, True)
            draft.put(Diagram.parse(USER))
            draft.commit()
        self.assertIs(draft.is_open, False)
        self.assertEqual(library.names, ("counter", "user"))
        with library.draft() as draft:
            draft.drop("user")
        self.assertIs(draft.is_open, False)
        self.assertEqual(library.names, ("counter", "user"))

    def test_with_gives_the_draft_itself(self):
        draft = Library().draft()
        with draft as same:
            self.assertIs(same, draft)
        with draft as same:
            self.assertIs(same, draft)
            self.assertIs(draft.is_open, False)
            with self.assertRaises(DraftClosed):
                draft.commit()

    def test_with_lets_errors_through(self):
        library = library_of(COUNTER)
        draft = library.draft()
        with self.assertRaises(KeyError):
            with draft:
                draft.drop("counter")
                raise KeyError("x")
        self.assertIs(draft.is_open, False)
        with self.assertRaises(UnknownBlock):
            with library.draft() as draft:
                draft.drop("x")
        self.assertIs(draft.is_open, False)
        self.assertEqual(library.names, ("counter",))

    def test_drafts_are_new_ones(self):
        library = library_of(COUNTER)
        one, other = library.draft(), library.draft()
        one.drop("counter")
        other.drop("counter")
        one.close()
        self.assertIs(other.is_open, True)
        other.commit()
        self.assertEqual(library.names, ())


if __name__ == "__main__":
    unittest.main()

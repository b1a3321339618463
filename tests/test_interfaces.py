"""is_interface: points 4 and 10."""

import itertools
import unittest

from stepblocks.compiling import is_interface

NAMES = tuple("abcdefgh")
OUTS = tuple("ijklmnop")
WIRE = (("i",), ("o",), ((("o",), ("i",)),))


class RightTest(unittest.TestCase):
    def accept(self, value):
        self.assertIs(is_interface(value), True, value)

    def test_ordinary(self):
        self.accept(WIRE)
        self.accept((("up",), ("count", "total"), ((("count",), ()), (("total",), ("up",)))))
        self.accept((("a", "b"), ("x", "y", "z"), ((("x", "z"), ("b",)), (("y",), ("a", "b")))))

    def test_argument_by_name(self):
        self.assertIs(is_interface(value=WIRE), True)

    def test_nothing_at_all(self):
        self.accept(((), (), ()))
        self.accept((("a",), (), ()))
        self.accept(((), ("a",), ((("a",), ()),)))

    def test_eight_ports(self):
        self.accept((NAMES, OUTS, ((OUTS, NAMES),)))
        self.accept((NAMES, OUTS, tuple(((name,), NAMES) for name in OUTS)))

    def test_equal_needs_in_several_step_functions(self):
        self.accept((("a",), ("x", "y"), ((("x",), ("a",)), (("y",), ("a",)))))
        self.accept(((), ("x", "y", "z"), ((("x", "z"), ()), (("y",), ()))))

    def test_names(self):
        self.accept((("abcdefgh",), ("add",), ((("add",), ()),)))
        self.accept((("const",), ("ends",), ((("ends",), ("const",)),)))

    def test_names_in_any_order_of_the_alphabet(self):
        self.accept((("z", "a"), ("y", "b"), ((("y", "b"), ("z", "a")),)))


class WrongTest(unittest.TestCase):
    def refuse(self, value):
        self.assertIs(is_interface(value), False, value)

    def test_other_values(self):
        deep = ()
        for k in range(49):
            deep = (deep,) if k % 2 else [deep]
        for value in (None, True, False, 0, 3, "", "abc", (), [], {}, ((), ()), ((), (), (), ()), [(), (), ()],
                      {0: (), 1: (), 2: ()}, "iop", (1, 2, 3), (None, None, None), ("", "", ""), deep,
                      (deep, deep, deep), ((), (), deep), ((), (), (deep,)), ((), (), ((deep, deep),))):
            self.refuse(value)

    def test_each_place_takes_its_kind_only(self):
        odd = (None, True, 0, "i", "o", [], {}, ["i"], ["o"], {"i": 1}, (0,), (True,), (None,), (["i"],), (("i",),),
               ("i", "i"), ("o", "o"), (("o",), ("i",)), [(("o",), ("i",))], ((),), (("o",),), ([("o",), ("i",)],),
               ((["o"], ("i",)),), ((("o",), ["i"]),), ((("o",), "i"),), (("o", "i"),), ((("o",), ("i",), ()),),
               ((("o",), ("i",)), ()), ((("o",), ("i",)), (("o",), ("i",))), ((("o",), ("z",)),), ((("z",), ("i",)),),
               ((("o",), ("o",)),), ((("i",), ("o",)),), (((), ("i",)),), ((("o",), ("i",)), ((), ())), ((0, 0),),
               ((("o", "o"), ("i",)),), ((("o",), ("i", "i")),), ((("o",), ({"i": 1},)),), ((([],), ("i",)),))
        for value in odd:
            self.refuse((value, *WIRE[1:]))
            self.refuse((WIRE[0], value, WIRE[2]))
            self.refuse((*WIRE[:2], value))
        self.refuse(list(WIRE))

    def test_nine_ports(self):
        self.refuse((NAMES + ("z",), (), ()))
        nine = OUTS + ("z",)
        self.refuse(((), nine, ((nine, ()),)))

    def test_names_all_different(self):
        self.refuse((("a", "a"), (), ()))
        self.refuse(((), ("a", "a"), ((("a",), ()),)))
        self.refuse((("a",), ("a",), ((("a",), ("a",)),)))

    def test_names(self):
        for name in ("", "block", "part", "end", "self", "abcdefghi", "A", "a1", "a b", "a.b", " a", "a\n", 7, None):
            self.refuse(((name,), (), ()))
            self.refuse(((), (name,), (((name,), ()),)))

    def test_each_output_in_exactly_one_step_function(self):
        self.refuse((("a",), ("x", "y"), ((("x",), ("a",)),)))
        self.refuse((("a",), ("x", "y"), ((("x", "y"), ("a",)), (("y",), ("a",)))))
        self.refuse((("a",), ("x",), ()))

    def test_orders(self):
        self.refuse((("a", "b"), ("x",), ((("x",), ("b", "a")),)))
        self.refuse((("a",), ("x", "y"), ((("y", "x"), ("a",)),)))
        self.refuse((("a",), ("x", "y"), ((("y",), ()), (("x",), ("a",)))))
        self.refuse(((), ("x", "y", "z"), ((("y",), ()), (("x", "z"), ()))))


class SmallInterfacesTest(unittest.TestCase):
    """All profiles of at most two step functions over few names, against point 10 word by word."""

    def test_all(self):
        inputs, outputs = ("b", "a"), ("y", "x")
        rows = [(), *itertools.product("yx"), *itertools.product("yx", repeat=2)]
        needs = [(), *itertools.product("ba"), *itertools.product("ba", repeat=2)]
        steps = list(itertools.product(rows, needs))
        profiles = [(), *itertools.product(steps), *itertools.product(steps, repeat=2)]
        right_rows = [("y",), ("x",), ("y", "x")]
        right_needs = [(), ("b",), ("a",), ("b", "a")]
        for profile in profiles:
            named = [name for names, _ in profile for name in names]
            right = (all(names in right_rows and need in right_needs for names, need in profile)
                     and sorted(named) == ["x", "y"] and profile[0][0][0] == "y")
            self.assertIs(is_interface((inputs, outputs, profile)), right, profile)


if __name__ == "__main__":
    unittest.main()

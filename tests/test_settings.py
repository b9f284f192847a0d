import unittest

from kindalone.settings import is_setting
from tests.samples import WRONG, Unchanged, replaced

GOOD = (
    (),
    (("a", 0, 0, ()),),
    (("a", 1, 1, ()),),
    (("a", 1, 1, ((0, 0),)),),
    (("a", 2, 3, ((0, 0), (0, 2), (1, 1))),),
    (("a", 3, 3, ((0, 0), (0, 1), (0, 2), (1, 0), (1, 1), (1, 2), (2, 0), (2, 1), (2, 2))),),
    (("a", 0, 3, ()), ("b", 3, 0, ())),
    (("a", 1, 1, ((0, 0),)), ("ab", 1, 1, ((0, 0),)), ("b", 2, 2, ((0, 1), (1, 0))), ("zzzzzzzz", 1, 1, ())),
    (("a", 10 ** 39, 10 ** 39, ((0, 10 ** 39 - 1), (10 ** 38, 0))),),
    tuple((letter, 1, 1, ()) for letter in "abcdefghijklmnopqrstuvwxyz"),
)
ROW = ("b", 2, 3, ((0, 0), (0, 2), (1, 1)))


class Settings(unittest.TestCase):
    def no(self, *things):
        for thing in things:
            self.assertIs(is_setting(thing), False, thing)

    def rows(self, *rows):
        self.no(*[(row,) for row in rows])

    def pairs(self, *all_pairs):
        self.rows(*[("b", 2, 3, pairs) for pairs in all_pairs])

    def test_settings(self):
        for setting in GOOD:
            self.assertIs(is_setting(setting), True, setting)
        self.assertIs(is_setting((ROW,)), True)

    def test_names(self):
        self.no((("b", 1, 1, ()), ("a", 1, 1, ())), (("a", 1, 1, ()), ("a", 1, 1, ())),
                (("a", 1, 1, ()), ("a", 2, 2, ())), (("a", 1, 1, ()), ("c", 1, 1, ()), ("b", 1, 1, ())))
        self.rows(*[replaced(ROW, 0, x) for x in ("", "A", "a1", "abcdefghi", "a b", 1, None, True, ("b",), ["b"], b"b")])

    def test_sizes(self):
        for at in (1, 2):
            self.rows(*[replaced(("b", 1, 1, ()), at, size) for size in (True, False, -1, None, "1", (1,), [1], {})])
            # Python takes True for 1.
            self.rows(replaced(("b", 1, 1, ((0, 0),)), at, True))

    def test_pairs_out_of_order_or_twice(self):
        self.pairs(((0, 2), (0, 0)), ((1, 0), (0, 0)), ((0, 0), (0, 0)), ((0, 0), (1, 1), (1, 0)),
                   ((0, 0), (1, 1), (1, 1)))

    def test_pairs_out_of_range(self):
        self.pairs(((2, 0),), ((0, 3),), ((-1, 0),), ((0, -1),), ((0, 0), (1, 3)), ((0, 0), (2, 2)))
        self.rows(("a", 0, 0, ((0, 0),)), ("a", 1, 0, ((0, 0),)), ("a", 0, 1, ((0, 0),)))

    def test_pairs_of_other_things(self):
        self.pairs(((False, 0),), ((0, True),), ((0, None),), (("0", "0"),), ((0, 0, 0),), ((0,),), ((),), (0, 0), (0,),
                   ([0, 0],), [(0, 0)], [], {}, None, "", 0, (None,), (((0,), 0),), {0: 0}, ({0: 0},), ("ab",))

    def test_a_part_left_out_or_one_too_many(self):
        for at in range(4):
            self.rows(ROW[:at] + ROW[at + 1:])
        self.rows(ROW + (0,), ROW + ((),), (), list(ROW), None, 0, "b", {}, (ROW,))
        self.no([ROW], ROW, {"b": ROW}, list(GOOD[7]), (list(ROW),), ((ROW,),))

    def test_anything(self):
        self.no(*[thing for thing in WRONG if thing != ()])
        for setting in GOOD[3:]:
            for at, row in enumerate(setting):
                for thing in WRONG:
                    self.no(replaced(setting, at, thing))
                    self.rows(replaced(row, 0, thing) if thing not in ("a", "num", "n") else None)
                    self.rows(replaced(row, 1, thing), replaced(row, 2, thing))
                    self.rows(replaced(row, 3, thing) if thing != () else None)

    def test_nothing_is_changed(self):
        unchanged = Unchanged(self)
        for thing in (*GOOD, [ROW], [list(ROW)], {"b": [0]}, (("b", 2, 3, [[0, 0]]),)):
            unchanged.ask(is_setting, thing)


if __name__ == "__main__":
    unittest.main()

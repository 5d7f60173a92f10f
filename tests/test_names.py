import unittest

from backissues.errors import BadNames, BadReach, UnknownName
from backissues.names import bulletin_names, refuse_bad_names, refuse_bad_reach, refuse_unknown_name
from tests.told import FAR_BEYOND, TWELVE, is_told


class GoodNamesTest(unittest.TestCase):
    def test_one_to_twelve_names_keep_the_order_handed_in(self):
        for many in range(1, 13):
            with self.subTest(many):
                self.assertEqual(bulletin_names(TWELVE[:many], 3), tuple(TWELVE[:many]))

    def test_order_is_not_that_of_the_alphabet(self):
        self.assertEqual(bulletin_names(["b", "c", "a"], 0), ("b", "c", "a"))

    def test_list_and_tuple_are_alike(self):
        self.assertEqual(bulletin_names(list(TWELVE), 1), bulletin_names(tuple(TWELVE), 1))

    def test_names_at_the_edges_of_length_and_signs(self):
        names = (" ", "~", "a" * 20, " " * 20, "A", "a", "a ")
        self.assertEqual(bulletin_names(names, 2), names)

    def test_every_reach_from_0_to_10(self):
        for reach in range(11):
            with self.subTest(reach):
                self.assertEqual(bulletin_names(["ash"], reach), ("ash",))

    def test_the_list_handed_in_stays_and_may_change_later(self):
        names = ["elm", "ash"]
        kept = bulletin_names(names, 1)
        self.assertEqual(names, ["elm", "ash"])
        names.append("oak")
        names[0] = "fir"
        self.assertEqual(kept, ("elm", "ash"))

    def test_what_is_told_is_a_tuple(self):
        self.assertTrue(is_told(bulletin_names(["elm", "ash"], 1)))
        self.assertIs(type(bulletin_names(["elm", "ash"], 1)), tuple)


class BadNamesTest(unittest.TestCase):
    def check_refused(self, names):
        for row in (list(names), tuple(names)):
            with self.subTest(names=row):
                with self.assertRaises(BadNames):
                    bulletin_names(row, 1)
                with self.assertRaises(BadNames):
                    refuse_bad_names(row)
                self.assertEqual(list(row), list(names))

    def test_no_name(self):
        self.check_refused([])

    def test_thirteen_names_and_more(self):
        self.check_refused(TWELVE + ["ivy"])
        self.check_refused([f"name {k}" for k in range(500)])

    def test_a_name_twice(self):
        self.check_refused(["ash", "ash"])
        self.check_refused(["ash", "elm", "ash"])
        self.check_refused(TWELVE[:11] + [TWELVE[0]])
        self.check_refused(TWELVE[:11] + [TWELVE[10]])

    def test_thirteen_names_with_one_twice(self):
        self.check_refused(TWELVE + [TWELVE[0]])


class BadReachTest(unittest.TestCase):
    def check_refused(self, reach):
        with self.assertRaises(BadReach):
            bulletin_names(["ash"], reach)
        with self.assertRaises(BadReach):
            refuse_bad_reach(reach)

    def test_just_outside(self):
        self.check_refused(-1)
        self.check_refused(11)

    def test_far_beyond(self):
        for far in FAR_BEYOND:
            self.check_refused(far)
            self.check_refused(-far)


class OrderOfRefusalsTest(unittest.TestCase):
    def test_bad_names_are_refused_ahead_of_a_bad_reach(self):
        for names in ([], TWELVE + ["ivy"], ["ash", "ash"]):
            for reach in (-1, 11) + FAR_BEYOND:
                with self.subTest(names=names):
                    with self.assertRaises(BadNames):
                        bulletin_names(names, reach)


class UnknownNameTest(unittest.TestCase):
    def test_a_name_of_the_bulletin_is_not_refused(self):
        for name in TWELVE:
            self.assertIsNone(refuse_unknown_name(tuple(TWELVE), name))

    def test_any_other_text_is_refused(self):
        for name in ("ivy", "", "Oak", "oa", "oak ", " oak", "oakash"):
            with self.subTest(name):
                with self.assertRaises(UnknownName):
                    refuse_unknown_name(tuple(TWELVE), name)


if __name__ == "__main__":
    unittest.main()

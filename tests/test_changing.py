import itertools
import unittest

from ropetree.changing import Net, answers
from ropetree.errors import NoPlace, NoRope
from tests.helper import cost_of, is_least, least_anew, small_days, small_nets, tiny_nets

LARGE = 10 ** 100 - 1
HUGE = 10 ** 5000


def answer_by_words(count, ropes, deed):
    """What a deed is answered with, and the ropes behind it."""
    before = least_anew(count, ropes)
    if deed[0] == "look":
        return before, ropes
    if deed[0] == "lay":
        if not (0 <= deed[1] < count and 0 <= deed[2] < count):
            return "no place", ropes
        ropes = ropes + [deed[1:]]
    else:
        if not 0 <= deed[1] < len(ropes):
            return "no rope", ropes
        one, other, cost = ropes[deed[1]]
        ropes = ropes[:deed[1]] + [(one, other, deed[2])] + ropes[deed[1] + 1:]
    after = least_anew(count, ropes)
    out = [number for number in before if number not in after]
    into = [number for number in after if number not in before]
    if deed[0] == "lay":
        return (len(ropes) - 1, out[0] if out else None, cost_of(ropes, after)), ropes
    return ((out[0], into[0]) if out else None, cost_of(ropes, after)), ropes


def answers_by_words(count, deeds):
    told = []
    ropes = []
    for deed in deeds:
        answer, ropes = answer_by_words(count, ropes, deed)
        told.append(answer)
    return told


def do(net, deed):
    try:
        return net.lay(*deed[1:]) if deed[0] == "lay" else net.recost(*deed[1:])
    except NoPlace:
        return "no place"
    except NoRope:
        return "no rope"


class TestWords(unittest.TestCase):
    def test_the_least_tree_put_together_anew(self):
        for count, ropes in itertools.chain(tiny_nets(), small_nets()):
            self.assertTrue(is_least(count, ropes, least_anew(count, ropes)), (count, ropes))


class TestLay(unittest.TestCase):
    def test_ropes_that_join(self):
        net = Net(3)
        self.assertEqual(net.lay(0, 1, 5), (0, None, 5))
        self.assertEqual(net.lay(2, 1, -7), (1, None, -2))

    def test_a_rope_that_puts_another_out(self):
        net = Net(3)
        net.lay(0, 1, 5)
        net.lay(1, 2, 6)
        self.assertEqual(net.lay(2, 0, 4), (2, 1, 9))
        self.assertEqual(net.lay(0, 1, 3), (3, 0, 7))

    def test_a_rope_that_stays_out(self):
        net = Net(2)
        net.lay(0, 1, 5)
        self.assertEqual(net.lay(0, 1, 6), (1, None, 5))

    def test_of_the_same_cost_the_new_rope_stays_out(self):
        net = Net(2)
        net.lay(0, 1, 5)
        self.assertEqual(net.lay(1, 0, 5), (1, None, 5))
        self.assertEqual(net.lay(1, 0, 4), (2, 0, 4))

    def test_of_the_same_cost_the_greater_number_goes_out(self):
        net = Net(3)
        net.lay(0, 1, 5)
        net.lay(1, 2, 5)
        self.assertEqual(net.lay(2, 0, 4), (2, 1, 9))

    def test_a_rope_from_a_place_to_itself(self):
        net = Net(1)
        self.assertEqual(net.lay(0, 0, -5), (0, None, 0))
        self.assertEqual(net.lay(0, 0, -6), (1, None, 0))

    def test_costs_of_a_hundred_figures(self):
        net = Net(2)
        self.assertEqual(net.lay(0, 1, LARGE), (0, None, LARGE))
        self.assertEqual(net.lay(0, 1, LARGE - 1), (1, 0, LARGE - 1))
        self.assertEqual(net.lay(0, 1, -LARGE), (2, 1, -LARGE))

    def test_refuses_what_is_no_place_and_changes_nothing(self):
        net = Net(3)
        net.lay(0, 1, 5)
        for wrong in (-1, -3, 3, 4, 10 ** 100, HUGE, -HUGE):
            for one, other in ((wrong, 0), (0, wrong), (wrong, wrong)):
                with self.assertRaises(NoPlace):
                    net.lay(one, other, -9)
        self.assertEqual(net.lay(1, 2, 1), (1, None, 6))

    def test_count_nought_has_no_place(self):
        with self.assertRaises(NoPlace):
            Net(0).lay(0, 0, 1)


class TestRecost(unittest.TestCase):
    def ring(self):
        net = Net(4)
        for one, other, cost in ((0, 1, 1), (1, 2, 2), (2, 0, 3), (2, 3, 9), (3, 3, 0)):
            net.lay(one, other, cost)
        return net

    def test_a_rope_of_the_tree_that_goes_out(self):
        self.assertEqual(self.ring().recost(0, 4), ((0, 2), 14))
        self.assertEqual(self.ring().recost(1, 4), ((1, 2), 13))

    def test_a_rope_that_comes_in(self):
        self.assertEqual(self.ring().recost(2, 1), ((1, 2), 11))
        self.assertEqual(self.ring().recost(2, -5), ((1, 2), 5))

    def test_of_the_same_cost_the_number_decides(self):
        self.assertEqual(self.ring().recost(1, 3), (None, 13))
        self.assertEqual(self.ring().recost(2, 2), (None, 12))
        net = self.ring()
        self.assertEqual(net.recost(0, 4), ((0, 2), 14))
        self.assertEqual(net.recost(0, 3), ((2, 0), 14))

    def test_a_rope_of_the_tree_that_stays(self):
        net = self.ring()
        self.assertEqual(net.recost(0, -8), (None, 3))
        self.assertEqual(net.recost(1, -9), (None, -8))
        self.assertEqual(net.recost(3, LARGE), (None, LARGE - 17))
        self.assertEqual(net.recost(3, LARGE), (None, LARGE - 17))

    def test_a_rope_that_stays_out(self):
        self.assertEqual(self.ring().recost(2, 99), (None, 12))
        self.assertEqual(self.ring().recost(4, -99), (None, 12))

    def test_a_later_deed_goes_by_the_new_cost(self):
        net = self.ring()
        net.recost(2, 50)
        self.assertEqual(net.recost(0, 49), (None, 60))
        self.assertEqual(net.lay(0, 1, 48), (5, 0, 59))

    def test_refuses_where_there_is_no_such_rope_and_changes_nothing(self):
        net = self.ring()
        for number in (5, 6, -1, -5, -6, 10 ** 100, HUGE, -HUGE):
            with self.assertRaises(NoRope):
                net.recost(number, -99)
        self.assertEqual(net.lay(3, 3, 1), (5, None, 12))
        for count in (0, 3):
            with self.assertRaises(NoRope):
                Net(count).recost(0, 1)

    def test_a_refused_rope_has_no_number(self):
        net = Net(2)
        with self.assertRaises(NoPlace):
            net.lay(0, 2, 1)
        with self.assertRaises(NoRope):
            net.recost(0, 1)


class TestNets(unittest.TestCase):
    def test_nets_beside_one_another(self):
        one = Net(2)
        one.lay(0, 1, 5)
        other = Net(3)
        with self.assertRaises(NoRope):
            other.recost(0, 1)
        self.assertEqual(other.lay(1, 2, 8), (0, None, 8))
        self.assertEqual(one.lay(0, 1, 4), (1, 0, 4))
        self.assertEqual(other.lay(2, 0, 1), (1, None, 9))
        self.assertEqual(one.recost(0, 3), ((1, 0), 3))
        self.assertEqual(other.recost(0, 2), (None, 3))

    def test_small_days_turn_by_turn(self):
        days = [(count, [deed for deed in deeds if deed[0] != "look"]) for count, deeds in small_days()]
        nets = [Net(count) for count, deeds in days]
        told = [[] for day in days]
        for turn in range(40):
            for (count, deeds), net, row in zip(days, nets, told):
                row.extend(do(net, deed) for deed in deeds[turn:turn + 1])
        for (count, deeds), row in zip(days, told):
            with self.subTest(count=count, deeds=deeds):
                self.assertEqual(row, answers_by_words(count, deeds))


class TestAnswers(unittest.TestCase):
    def test_plain(self):
        deeds = [("look",), ("lay", 0, 1, 5), ("lay", 1, 2, 6), ("look",), ("lay", 2, 0, 4), ("look",), ("cost", 2, 9),
                 ("look",), ("cost", 1, 7), ("lay", 2, 2, -1), ("look",)]
        self.assertEqual(answers(4, deeds), [
            [], (0, None, 5), (1, None, 11), [0, 1], (2, 1, 9), [0, 2], ((2, 1), 11), [0, 1], (None, 12), (3, None, 12),
            [0, 1]])

    def test_an_empty_day(self):
        self.assertEqual(answers(0, []), [])
        self.assertEqual(answers(5, []), [])
        self.assertEqual(answers(0, [("look",)]), [[]])

    def test_refused_deeds_are_answered_with_a_text(self):
        self.assertEqual(answers(0, [("lay", 0, 0, 1), ("cost", 0, 1)]), ["no place", "no rope"])
        self.assertEqual(answers(2, [("lay", 0, 2, 1), ("lay", -1, 0, 1), ("lay", HUGE, -HUGE, 1)]), ["no place"] * 3)
        deeds = [("lay", 0, 1, 1), ("cost", 1, 5), ("cost", -1, 5), ("cost", HUGE, 5), ("cost", -HUGE, 5)]
        self.assertEqual(answers(2, deeds), [(0, None, 1)] + ["no rope"] * 4)

    def test_refused_deeds_change_nothing(self):
        deeds = [("lay", 0, 1, 5), ("lay", 0, 1, 6), ("lay", 0, 3, -1), ("cost", 2, -1), ("cost", -1, -1), ("look",),
                 ("lay", 3, 0, -1), ("lay", 1, 2, 1), ("cost", 1, 0), ("look",)]
        self.assertEqual(answers(3, deeds), [
            (0, None, 5), (1, None, 5), "no place", "no rope", "no rope", [0], "no place", (2, None, 6), ((0, 1), 1),
            [1, 2]])

    def test_looks_do_not_change(self):
        deeds = [("lay", 0, 1, 5), ("look",), ("look",), ("lay", 0, 1, 4), ("look",), ("cost", 0, 1), ("look",)]
        told = answers(2, deeds)
        self.assertEqual([told[1], told[2], told[4], told[6]], [[0], [0], [1], [0]])
        told[1].append(77)
        self.assertEqual([told[1], told[2], told[4], told[6]], [[0, 77], [0], [1], [0]])

    def test_a_changed_look_changes_nothing(self):
        net = Net(2)
        net.lay(0, 1, 5)
        net.look().append(77)
        self.assertEqual(net.look(), [0])
        self.assertEqual(net.lay(0, 1, 4), (1, 0, 4))

    def test_each_day_begins_anew(self):
        deeds = [("lay", 0, 1, 5), ("look",), ("cost", 0, 2)]
        self.assertEqual(answers(2, deeds), answers(2, deeds))
        self.assertEqual(answers(2, [("look",), ("cost", 0, 2)]), [[], "no rope"])

    def test_kinds(self):
        deeds = [("lay", 0, 1, 5), ("lay", 0, 1, 4), ("cost", 0, 1), ("cost", 0, 2), ("look",), ("lay", 9, 9, 9)]
        told = answers(2, deeds)
        self.assertIs(type(told), list)
        self.assertEqual([type(answer) for answer in told], [tuple, tuple, tuple, tuple, list, str])
        self.assertIs(type(told[2][0]), tuple)

    def test_small_days(self):
        for count, deeds in small_days():
            with self.subTest(count=count, deeds=deeds):
                self.assertEqual(answers(count, deeds), answers_by_words(count, deeds))

    def test_all_short_days_of_two_places(self):
        kinds = [("lay", 0, 1, 0), ("lay", 1, 0, 1), ("lay", 1, 1, -1), ("lay", 2, 0, 0), ("cost", 0, 1), ("cost", 1, 0),
                 ("cost", 1, -1), ("look",)]
        for size in range(5):
            for deeds in itertools.product(kinds, repeat=size):
                self.assertEqual(answers(2, list(deeds)), answers_by_words(2, deeds), deeds)


if __name__ == "__main__":
    unittest.main()

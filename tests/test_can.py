"""Points 1 and 2 of the document as far as they speak of can."""

import itertools
import random
import unittest

from netmeeting.meeting import can, near
from tests import model
from tests.model import BIG

TWO = [0, 1]
PATH_OF_THREE = [0, 1, 1, 2]
# 0 and 3 hang at the two ends of a path whose middle link is told last.
MIRRORED_PATH_OF_FOUR = [0, 1, 3, 2, 1, 2]
PAIRED_RING_OF_FOUR = [0, 1, 2, 3, 1, 2, 3, 0]
PAIRED_RING_OF_SIX = [0, 1, 2, 3, 4, 5, 1, 2, 3, 4, 5, 0]
RING_OF_FOUR_IN_A_ROW = [0, 1, 1, 2, 2, 3, 3, 0]
# 3 and 2 are alike and never nearer than 3.
FAR_RING_OF_SIX = [1, 4, 5, 0, 2, 5, 4, 2, 1, 3, 3, 0]


class OrdinaryNets(unittest.TestCase):

    def answers(self, n, u, v, net, nearest):
        """Alike places: 0 with d below how near they come, 1 with d as much or more."""
        for d in range(nearest):
            self.assertEqual(can(n, u, v, d, net), [0], (n, u, v, d, net))
        for d in (nearest, nearest + 1, nearest + 2, 20, 21, BIG - 1, BIG):
            self.assertEqual(can(n, u, v, d, net), [1], (n, u, v, d, net))

    def test_one_place(self):
        self.answers(1, 0, 0, [], 0)

    def test_two_places(self):
        self.answers(2, 0, 1, TWO, 1)
        self.answers(2, 1, 0, TWO, 1)
        self.answers(2, 0, 1, [1, 0], 1)

    def test_u_is_v(self):
        for net in (PAIRED_RING_OF_FOUR, RING_OF_FOUR_IN_A_ROW, MIRRORED_PATH_OF_FOUR):
            for place in range(4):
                self.answers(4, place, place, net, 0)

    def test_rings_that_go_alike(self):
        self.answers(4, 0, 1, PAIRED_RING_OF_FOUR, 1)
        self.answers(4, 0, 2, PAIRED_RING_OF_FOUR, 2)
        self.answers(6, 0, 1, PAIRED_RING_OF_SIX, 1)
        self.answers(6, 0, 2, PAIRED_RING_OF_SIX, 2)
        self.answers(6, 3, 2, FAR_RING_OF_SIX, 3)

    def test_nearer_by_a_word_than_at_first(self):
        # 0 and 3 are at distance 3, and come as near as 1.
        self.answers(6, 0, 3, PAIRED_RING_OF_SIX, 1)
        self.answers(6, 0, 5, [0, 1, 5, 4, 1, 2, 4, 3, 2, 3], 1)

    def test_place_with_one_exit(self):
        self.answers(4, 0, 3, MIRRORED_PATH_OF_FOUR, 1)
        self.answers(4, 1, 2, MIRRORED_PATH_OF_FOUR, 1)
        self.answers(6, 5, 4, [1, 3, 0, 2, 5, 1, 4, 2, 1, 0, 3, 2], 2)

    def test_not_alike(self):
        for d in (0, 1, 2, BIG):
            # 0 and 2 both have one exit and are told apart by the exit by which one comes in.
            self.assertEqual(can(3, 0, 2, d, PATH_OF_THREE), [1])
            self.assertEqual(can(3, 0, 1, d, PATH_OF_THREE), [1])
            for u, v in itertools.permutations(range(4), 2):
                self.assertEqual(can(4, u, v, d, RING_OF_FOUR_IN_A_ROW), [1])
            # Told apart in the middle of a path of seven alone.
            self.assertEqual(can(7, 0, 6, d, [0, 1, 6, 5, 1, 2, 5, 4, 2, 3, 4, 3]), [1])

    def test_ten_links_and_six_exits_are_not_too_many(self):
        whole_of_five = [place for link in itertools.combinations(range(5), 2) for place in link]
        self.assertEqual(can(5, 3, 3, 0, whole_of_five), [1])
        self.assertEqual(can(7, 1, 2, 0, [0, 1, 0, 2, 0, 3, 0, 4, 0, 5, 0, 6]), [1])


class AgainstTheModel(unittest.TestCase):

    def check(self, n, net, longest):
        for u, v in itertools.product(range(n), repeat=2):
            nearest = 0
            if model.are_alike(n, net, u, v):
                nearest = model.near(n, u, v, net, longest)[0]
            for d in (0, 1, 2, 3, 4, BIG):
                told = list(net)
                self.assertEqual(can(n, u, v, d, told), [int(nearest <= d)], (n, u, v, d, net))
                self.assertEqual(told, net)

    def test_all_nets_up_to_three_places(self):
        for n in (1, 2, 3):
            pairs = list(itertools.combinations(range(n), 2))
            for count in range(len(pairs) + 1):
                for links in itertools.permutations(pairs, count):
                    net = [place for link in links for place in link]
                    if model.is_net(n, net):
                        self.check(n, net, 4)
                    else:
                        self.assertEqual(can(n, 0, 0, 0, net), [-22])

    def test_some_nets(self):
        chance = random.Random(7)
        for n in (4, 5, 6, 7):
            for turn in range(8):
                self.check(n, model.some_net(chance, n), 3)

    def test_nets_with_alike_places(self):
        chance = random.Random(8)
        for turn in range(40):
            self.check(4, model.mirrored_net(chance, 4), 3)
        answers = []
        for turn in range(12):
            net = model.mirrored_net(chance, 6)
            for u, v in ((0, 1), (1, 0), (2, 3), (4, 5)):
                nearest = model.near(6, u, v, net, 4)[0]
                for d in range(4):
                    answers.append(can(6, u, v, d, net))
                    self.assertEqual(answers[-1], [int(nearest <= d)], (u, v, d, net))
        self.assertGreater(answers.count([0]), 40)
        self.assertGreater(answers.count([1]), 40)

    def test_alike_and_later_by_less_they_never_meet(self):
        chance = random.Random(9)
        gone = 0
        for turn in range(200):
            net = model.mirrored_net(chance, 6)
            used, steps = model.table(6, net)
            for u, v, d in ((0, 1, 0), (3, 2, 1), (4, 5, 1), (2, 3, 2)):
                if can(6, u, v, d, net) == [0]:
                    word = [chance.randrange(used) for letter in range(30)]
                    self.assertEqual(model.meets(u, v, d, net, word), [-33], (u, v, d, net, word))
                    gone += 1
        self.assertGreater(gone, 200)

    def test_alike_and_later_by_as_much_they_can(self):
        chance = random.Random(10)
        for turn in range(100):
            net = model.mirrored_net(chance, 6)
            used, steps = model.table(6, net)
            for u, v in ((0, 1), (3, 2), (4, 5)):
                nearest, count, *word = near(6, u, v, net)
                a, b = model.gone(u, word, steps)[0], model.gone(v, word, steps)[0]
                # Once as near as they come, the first goes where the second stands as it begins its last steps.
                onward = itertools.product(range(used), repeat=nearest)
                last = next(letters for letters in onward if model.gone(a, letters, steps)[0] == b)
                self.assertGreaterEqual(model.meets(u, v, nearest, net, word + list(last))[0], 0)
                self.assertEqual(can(6, u, v, nearest, net), [1])


class Refusals(unittest.TestCase):

    def refused(self, number, n, u, v, d, net):
        told = list(net)
        self.assertEqual(can(n, u, v, d, told), [number], (n, u, v, d, net))
        self.assertEqual(told, net)

    def test_no_net(self):
        for n, net in model.NO_NETS:
            self.refused(-22, n, 0, 0, 0, net)
            self.refused(-22, n, 0, 1, BIG, net)

    def test_no_such_place(self):
        for d in (0, 1, BIG):
            self.refused(-2, 1, 1, 0, d, [])
            self.refused(-2, 1, 0, 1, d, [])
            self.refused(-2, 2, 2, 0, d, TWO)
            self.refused(-2, 2, 1, 2, d, TWO)
            self.refused(-2, 2, 2, 2, d, TWO)
            self.refused(-2, 2, BIG, 0, d, TWO)
            self.refused(-2, 2, 0, BIG, d, TWO)
            self.refused(-2, 7, 7, 6, d, [0, 1, 1, 2, 2, 3, 3, 4, 4, 5, 5, 6])

    def test_the_one_told_first(self):
        for n, net in model.NO_NETS:
            self.refused(-22, n, BIG, 0, 0, net)
            self.refused(-22, n, 0, BIG, 3, net)
            self.refused(-22, n, BIG, BIG, BIG, net)
        self.refused(-2, 3, 0, 3, BIG, PATH_OF_THREE)

    def test_no_bound_of_d(self):
        for d in (2, 3, 20, 21, BIG):
            self.assertEqual(can(2, 0, 1, d, TWO), [1])


class AnyInput(unittest.TestCase):

    def test_one_list_of_one_whole_number_the_same_each_time(self):
        chance = random.Random(11)
        for turn in range(4000):
            top = chance.choice((2, 3, 8, BIG))
            n, u, v, d = (chance.choice((chance.randint(0, 8), chance.randint(0, top))) for name in "nuvd")
            net = [chance.randint(0, top) for place in range(chance.randint(0, 24))]
            if 1 <= n <= 7 and chance.random() < 0.6:
                net = model.some_net(chance, n)
            told = list(net)
            answer = can(n, u, v, d, told)
            self.assertEqual(told, net)
            self.assertEqual(can(n, u, v, d, told), answer)
            self.assertIs(type(answer), list)
            self.assertEqual([type(number) for number in answer], [int])
            if not model.is_net(n, net):
                self.assertEqual(answer, [-22])
            elif u >= n or v >= n:
                self.assertEqual(answer, [-2])
            else:
                self.assertIn(answer, ([0], [1]))


if __name__ == "__main__":
    unittest.main()

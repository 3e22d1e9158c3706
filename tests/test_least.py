"""Points 1 and 2 of the document as far as they speak of least."""

import itertools
import random
import unittest

from netmeeting.meeting import least, near
from tests import model
from tests.model import BIG

TWO = [0, 1]
PATH_OF_THREE = [0, 1, 1, 2]
# 0 and 3 hang at the two ends of a path whose middle link is told last.
MIRRORED_PATH_OF_FOUR = [0, 1, 3, 2, 1, 2]
PAIRED_RING_OF_FOUR = [0, 1, 2, 3, 1, 2, 3, 0]
PAIRED_RING_OF_SIX = [0, 1, 2, 3, 4, 5, 1, 2, 3, 4, 5, 0]
RING_OF_FOUR_IN_A_ROW = [0, 1, 1, 2, 2, 3, 3, 0]
# 3 and 2 are alike and never nearer than 3.
FAR_RING_OF_SIX = [1, 4, 5, 0, 2, 5, 4, 2, 1, 3, 3, 0]
# Told apart in the middle alone.
PATH_OF_SEVEN = [0, 1, 6, 5, 1, 2, 5, 4, 2, 3, 4, 3]
STAR_OF_SIX = [0, 1, 0, 2, 0, 3, 0, 4, 0, 5, 0, 6]


class OrdinaryNets(unittest.TestCase):

    def test_one_place(self):
        self.assertEqual(least(1, 0, 0, []), [0])

    def test_two_places(self):
        for net in (TWO, [1, 0]):
            self.assertEqual(least(2, 0, 1, net), [1])
            self.assertEqual(least(2, 1, 0, net), [1])
            self.assertEqual(least(2, 0, 0, net), [0])
            self.assertEqual(least(2, 1, 1, net), [0])

    def test_u_is_v(self):
        for net in (PAIRED_RING_OF_FOUR, RING_OF_FOUR_IN_A_ROW, MIRRORED_PATH_OF_FOUR):
            for place in range(4):
                self.assertEqual(least(4, place, place, net), [0])
        for place in range(7):
            self.assertEqual(least(7, place, place, STAR_OF_SIX), [0])

    def test_rings_that_go_alike(self):
        self.assertEqual(least(4, 0, 1, PAIRED_RING_OF_FOUR), [1])
        self.assertEqual(least(4, 0, 2, PAIRED_RING_OF_FOUR), [2])
        self.assertEqual(least(4, 3, 1, PAIRED_RING_OF_FOUR), [2])
        self.assertEqual(least(6, 0, 1, PAIRED_RING_OF_SIX), [1])
        self.assertEqual(least(6, 0, 2, PAIRED_RING_OF_SIX), [2])
        self.assertEqual(least(6, 5, 1, PAIRED_RING_OF_SIX), [2])
        self.assertEqual(least(6, 3, 2, FAR_RING_OF_SIX), [3])
        self.assertEqual(least(6, 2, 3, FAR_RING_OF_SIX), [3])

    def test_nearer_by_a_word_than_at_first(self):
        # 0 and 3 are at distance 3, and come as near as 1.
        self.assertEqual(least(6, 0, 3, PAIRED_RING_OF_SIX), [1])
        self.assertEqual(least(6, 3, 0, PAIRED_RING_OF_SIX), [1])
        # A path of six: its ends are at distance 5, and come as near as 1 by two letters alone.
        self.assertEqual(least(6, 0, 5, [0, 1, 5, 4, 1, 2, 4, 3, 2, 3]), [1])
        self.assertEqual(least(6, 1, 4, [0, 1, 5, 4, 1, 2, 4, 3, 2, 3]), [1])

    def test_place_with_one_exit(self):
        self.assertEqual(least(4, 0, 3, MIRRORED_PATH_OF_FOUR), [1])
        self.assertEqual(least(4, 1, 2, MIRRORED_PATH_OF_FOUR), [1])
        self.assertEqual(least(6, 5, 4, [1, 3, 0, 2, 5, 1, 4, 2, 1, 0, 3, 2]), [2])

    def test_not_alike(self):
        # 0 and 2 both have one exit and are told apart by the exit by which one comes in.
        self.assertEqual(least(3, 0, 2, PATH_OF_THREE), [0])
        self.assertEqual(least(3, 0, 1, PATH_OF_THREE), [0])
        self.assertEqual(least(4, 0, 1, MIRRORED_PATH_OF_FOUR), [0])
        for u, v in itertools.permutations(range(4), 2):
            self.assertEqual(least(4, u, v, RING_OF_FOUR_IN_A_ROW), [0])
        for u, v in itertools.permutations(range(7), 2):
            self.assertEqual(least(7, u, v, PATH_OF_SEVEN), [0])
            self.assertEqual(least(7, u, v, STAR_OF_SIX), [0])

    def test_not_alike_and_yet_no_word_does_it(self):
        # By no word gone from both they'd be in one place; 0 is told all the same.
        net = [0, 2, 1, 3, 2, 1]
        self.assertNotIn(0, [model.distance(4, net, a, b) for a, b in model.twos_reached(4, 0, 1, net)])
        self.assertEqual(least(4, 0, 1, net), [0])

    def test_told_apart_by_two_letters_alone(self):
        # By each word of 1 letter the same is seen from 1 and 2, and by no word gone from both they'd be in one place.
        net = [5, 1, 0, 5, 2, 3, 0, 4, 3, 4, 2, 1]
        used, steps = model.table(6, net)
        for letter in range(used):
            self.assertEqual(steps[1, letter][1], steps[2, letter][1])
        self.assertTrue(all(a != b for a, b in model.twos_reached(6, 1, 2, net)))
        self.assertEqual(least(6, 1, 2, net), [0])
        self.assertEqual(least(6, 2, 1, net), [0])

    def test_ten_links_are_not_too_many(self):
        whole_of_five = [place for link in itertools.combinations(range(5), 2) for place in link]
        self.assertEqual(len(whole_of_five), 20)
        self.assertEqual(least(5, 3, 3, whole_of_five), [0])
        self.assertEqual(least(5, 3, 4, whole_of_five), [0])
        # All alike by three matchings, and a tenth link between two of them.
        nine = [0, 1, 2, 3, 4, 5, 1, 2, 3, 4, 5, 0, 0, 3, 1, 4, 2, 5]
        self.assertEqual(least(6, 0, 3, nine), [1])
        self.assertEqual(least(6, 0, 1, nine + [0, 2]), [0])


class AgainstTheModel(unittest.TestCase):

    def check(self, n, net):
        """All places: the answers, which are the model's and near's."""
        answers = []
        for u, v in itertools.product(range(n), repeat=2):
            told = list(net)
            answer = least(n, u, v, told)
            self.assertEqual(told, net)
            self.assertEqual(answer, [model.least(n, u, v, net)], (n, u, v, net))
            self.assertEqual(answer, [max(near(n, u, v, net)[0], 0)], (n, u, v, net))
            answers.append((u, v, answer[0]))
        return answers

    def test_all_words_tried_on_all_nets_up_to_three_places(self):
        for n in (1, 2, 3):
            pairs = list(itertools.combinations(range(n), 2))
            for count in range(len(pairs) + 1):
                for links in itertools.permutations(pairs, count):
                    net = [place for link in links for place in link]
                    if not model.is_net(n, net):
                        self.assertEqual(least(n, 0, 0, net), [-22])
                        continue
                    for u, v, answer in self.check(n, net):
                        alike = model.are_alike(n, net, u, v)
                        tried = model.near(n, u, v, net, 4)[0] if alike else 0
                        self.assertEqual(answer, tried, (n, u, v, net))

    def test_all_words_tried_on_some_nets(self):
        chance = random.Random(17)
        for turn in range(20):
            net = model.renamed(chance, 4, model.mirrored_net(chance, 4))
            for u, v, answer in self.check(4, net):
                alike = model.are_alike(4, net, u, v)
                self.assertEqual(answer, model.near(4, u, v, net, 3)[0] if alike else 0, (u, v, net))

    def test_all_nets_of_four_places(self):
        pairs = list(itertools.combinations(range(4), 2))
        for count in range(3, 7):
            for links in itertools.permutations(pairs, count):
                net = [place for link in links for place in link]
                if model.is_net(4, net) and net[:2] == [0, 1]:
                    self.check(4, net)

    def test_some_nets(self):
        chance = random.Random(18)
        for n in (4, 5, 6, 7):
            for turn in range(30):
                self.check(n, model.some_net(chance, n))

    def test_nets_with_alike_places(self):
        chance = random.Random(19)
        seen = []
        for n in (2, 4, 6):
            for turn in range(40):
                net = model.mirrored_net(chance, n)
                for u, v, answer in self.check(n, net):
                    if u == v ^ 1:
                        self.assertGreater(answer, 0)
                        seen.append(answer)
                self.check(n, model.renamed(chance, n, net))
        for answer in (1, 2):
            self.assertGreater(seen.count(answer), 10)

    def test_nets_whose_places_are_all_alike(self):
        chance = random.Random(20)
        seen = []
        for n in (2, 4, 6):
            for turn in range(30):
                for u, v, answer in self.check(n, model.net_of_matchings(chance, n)):
                    self.assertEqual(answer == 0, u == v)
                    seen.append(answer)
        for answer in (0, 1, 2):
            self.assertGreater(seen.count(answer), 10)

    def test_two_that_are_alike_and_go_alike_never_come_nearer(self):
        chance = random.Random(21)
        for turn in range(100):
            net = model.mirrored_net(chance, 6)
            used, steps = model.table(6, net)
            for u, v in ((0, 1), (3, 2), (4, 5)):
                nearest = least(6, u, v, net)[0]
                a, b = u, v
                for step in range(60):
                    letter = chance.randrange(used)
                    a, b = steps[a, letter][0], steps[b, letter][0]
                    self.assertGreaterEqual(model.distance(6, net, a, b), nearest, (u, v, net))
                word = near(6, u, v, net)[2:]
                a, b = model.gone(u, word, steps)[0], model.gone(v, word, steps)[0]
                self.assertEqual(model.distance(6, net, a, b), nearest, (u, v, net))


class Refusals(unittest.TestCase):

    def refused(self, number, n, u, v, net):
        told = list(net)
        self.assertEqual(least(n, u, v, told), [number], (n, u, v, net))
        self.assertEqual(told, net)

    def test_no_net(self):
        for n, net in model.NO_NETS:
            self.refused(-22, n, 0, 0, net)
            self.refused(-22, n, 0, 1, net)

    def test_seven_places_and_ten_links_are_not_refused(self):
        self.assertEqual(least(7, 6, 6, [0, 1, 1, 2, 2, 3, 3, 4, 4, 5, 5, 6]), [0])
        self.assertEqual(least(6, 0, 0, model.ELEVEN_LINKS[:20]), [0])

    def test_no_such_place(self):
        self.refused(-2, 1, 1, 0, [])
        self.refused(-2, 1, 0, 1, [])
        self.refused(-2, 1, 1, 1, [])
        self.refused(-2, 2, 2, 0, TWO)
        self.refused(-2, 2, 1, 2, TWO)
        self.refused(-2, 2, 2, 2, TWO)
        self.refused(-2, 2, BIG, 0, TWO)
        self.refused(-2, 2, 0, BIG, TWO)
        self.refused(-2, 2, BIG, BIG, TWO)
        self.refused(-2, 7, 7, 6, STAR_OF_SIX)
        self.refused(-2, 7, 6, 7, STAR_OF_SIX)

    def test_the_one_told_first(self):
        for n, net in model.NO_NETS:
            self.refused(-22, n, BIG, 0, net)
            self.refused(-22, n, 0, BIG, net)
            self.refused(-22, n, BIG, BIG, net)
            self.refused(-22, n, n, n, net)
        self.refused(-2, 3, 0, 3, PATH_OF_THREE)


class AnyInput(unittest.TestCase):

    def test_one_list_of_one_whole_number_the_same_each_time(self):
        chance = random.Random(22)
        for turn in range(4000):
            top = chance.choice((2, 3, 8, BIG))
            n, u, v = (chance.choice((chance.randint(0, 8), chance.randint(0, top))) for name in "nuv")
            net = [chance.randint(0, top) for place in range(chance.randint(0, 24))]
            if 1 <= n <= 7 and chance.random() < 0.6:
                net = model.some_net(chance, n)
            told = list(net)
            answer = least(n, u, v, told)
            self.assertEqual(told, net)
            self.assertEqual(least(n, u, v, told), answer)
            self.assertIs(type(answer), list)
            self.assertEqual([type(number) for number in answer], [int])
            if not model.is_net(n, net):
                self.assertEqual(answer, [-22])
            elif u >= n or v >= n:
                self.assertEqual(answer, [-2])
            else:
                self.assertEqual(answer, [model.least(n, u, v, net)])


if __name__ == "__main__":
    unittest.main()

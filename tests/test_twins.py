"""Points 1 and 2 of the document as far as they speak of twins."""

import itertools
import random
import unittest

from netmeeting.meeting import twins
from tests import model
from tests.model import BIG

TWO = [0, 1]
PATH_OF_THREE = [0, 1, 1, 2]
RING_OF_THREE = [0, 1, 1, 2, 2, 0]
# 0 and 3 hang at the two ends of a path whose middle link is told last.
MIRRORED_PATH_OF_FOUR = [0, 1, 3, 2, 1, 2]
PAIRED_RING_OF_FOUR = [0, 1, 2, 3, 1, 2, 3, 0]
PAIRED_RING_OF_SIX = [0, 1, 2, 3, 4, 5, 1, 2, 3, 4, 5, 0]
RING_OF_FOUR_IN_A_ROW = [0, 1, 1, 2, 2, 3, 3, 0]
# Alike are those that lie across from each other, which they do always: 0 and 4, 1 and 5, 2 and 3.
FAR_RING_OF_SIX = [1, 4, 5, 0, 2, 5, 4, 2, 1, 3, 3, 0]
WHOLE_OF_FOUR = [0, 1, 2, 3, 0, 2, 1, 3, 0, 3, 1, 2]
STAR_OF_SIX = [0, 1, 0, 2, 0, 3, 0, 4, 0, 5, 0, 6]


class OrdinaryNets(unittest.TestCase):

    def none_from(self, d, n, net):
        """With this d and above there are no twos."""
        for more in (d, d + 1, d + 2, 20, 21, BIG - 1, BIG):
            self.assertEqual(twins(n, more, net), [0], (n, more, net))

    def test_one_place(self):
        self.none_from(0, 1, [])

    def test_two_places(self):
        for net in (TWO, [1, 0]):
            self.assertEqual(twins(2, 0, net), [1, 0, 1])
            self.none_from(1, 2, net)

    def test_no_twos(self):
        self.none_from(0, 3, PATH_OF_THREE)
        self.none_from(0, 3, RING_OF_THREE)
        self.none_from(0, 4, RING_OF_FOUR_IN_A_ROW)
        self.none_from(0, 5, [place for link in itertools.combinations(range(5), 2) for place in link])
        # Told apart in the middle of a path of seven alone.
        self.none_from(0, 7, [0, 1, 6, 5, 1, 2, 5, 4, 2, 3, 4, 3])
        self.none_from(0, 7, STAR_OF_SIX)

    def test_place_with_one_exit(self):
        self.assertEqual(twins(4, 0, MIRRORED_PATH_OF_FOUR), [2, 0, 3, 1, 2])
        self.none_from(1, 4, MIRRORED_PATH_OF_FOUR)
        # 1 and 2, 0 and 3, and the ends 4 and 5.
        net = [1, 3, 0, 2, 5, 1, 4, 2, 1, 0, 3, 2]
        self.assertEqual(twins(6, 0, net), [3, 0, 3, 1, 2, 4, 5])
        self.assertEqual(twins(6, 1, net), [3, 0, 3, 1, 2, 4, 5])
        self.none_from(2, 6, net)

    def test_nearer_by_a_word_than_at_first(self):
        # The ends of a path of six are at distance 5, and come as near as 1.
        net = [0, 1, 5, 4, 1, 2, 4, 3, 2, 3]
        self.assertEqual(twins(6, 0, net), [3, 0, 5, 1, 4, 2, 3])
        self.none_from(1, 6, net)

    def test_rings(self):
        self.assertEqual(twins(4, 0, PAIRED_RING_OF_FOUR), [6, 0, 1, 0, 2, 0, 3, 1, 2, 1, 3, 2, 3])
        self.assertEqual(twins(4, 1, PAIRED_RING_OF_FOUR), [2, 0, 2, 1, 3])
        self.none_from(2, 4, PAIRED_RING_OF_FOUR)
        every = [place for two in itertools.combinations(range(6), 2) for place in two]
        self.assertEqual(twins(6, 0, PAIRED_RING_OF_SIX), [15] + every)
        # 0 and 3 are at distance 3 and come as near as 1; 0 and 2 never come nearer than 2.
        self.assertEqual(twins(6, 1, PAIRED_RING_OF_SIX), [6, 0, 2, 0, 4, 1, 3, 1, 5, 2, 4, 3, 5])
        self.none_from(2, 6, PAIRED_RING_OF_SIX)

    def test_as_near_as_three(self):
        for d in range(3):
            self.assertEqual(twins(6, d, FAR_RING_OF_SIX), [3, 0, 4, 1, 5, 2, 3])
        self.none_from(3, 6, FAR_RING_OF_SIX)

    def test_all_linked_to_all(self):
        self.assertEqual(twins(4, 0, WHOLE_OF_FOUR), [6, 0, 1, 0, 2, 0, 3, 1, 2, 1, 3, 2, 3])
        self.none_from(1, 4, WHOLE_OF_FOUR)

    def test_the_lesser_first_whichever_way_the_links_are_told(self):
        self.assertEqual(twins(4, 0, [3, 2, 1, 0, 2, 1]), [2, 0, 3, 1, 2])
        self.assertEqual(twins(4, 1, [3, 0, 2, 1, 1, 0, 3, 2]), [2, 0, 2, 1, 3])


class AgainstTheModel(unittest.TestCase):

    def check(self, n, net):
        """All d that matter: the answers, which are the model's."""
        answers = []
        for d in (0, 1, 2, 3, 4, BIG):
            told = list(net)
            answer = twins(n, d, told)
            self.assertEqual(told, net)
            self.assertEqual(answer, model.twins(n, d, net), (n, d, net))
            answers.append(answer)
        self.assertEqual(answers[-1], [0])
        return answers

    def test_all_words_tried_on_all_nets_up_to_three_places(self):
        for n in (1, 2, 3):
            pairs = list(itertools.combinations(range(n), 2))
            for count in range(len(pairs) + 1):
                for links in itertools.permutations(pairs, count):
                    net = [place for link in links for place in link]
                    if not model.is_net(n, net):
                        self.assertEqual(twins(n, 0, net), [-22])
                        continue
                    alike = [two for two in pairs if model.are_alike(n, net, *two)]
                    for d, answer in enumerate(self.check(n, net)[:5]):
                        twos = [two for two in alike if model.near(n, *two, net, 4)[0] > d]
                        self.assertEqual(answer, [len(twos)] + [place for two in twos for place in two], (n, d, net))

    def test_some_nets(self):
        chance = random.Random(23)
        for n in (4, 5, 6, 7):
            for turn in range(30):
                self.check(n, model.some_net(chance, n))

    def test_nets_with_alike_places(self):
        chance = random.Random(24)
        counts = []
        for n in (2, 4, 6):
            for turn in range(40):
                net = model.mirrored_net(chance, n)
                answers = self.check(n, net)
                self.assertGreaterEqual(answers[0][0], n // 2)
                counts += [answer[0] for answer in answers]
                self.check(n, model.renamed(chance, n, net))
        for count in (0, 1, 2, 3):
            self.assertGreater(counts.count(count), 5)

    def test_nets_whose_places_are_all_alike(self):
        chance = random.Random(25)
        counts = []
        for n in (2, 4, 6):
            for turn in range(30):
                answers = self.check(n, model.net_of_matchings(chance, n))
                self.assertEqual(answers[0][0], n * (n - 1) // 2)
                counts += [answer[0] for answer in answers]
        for count in (0, 1, 2, 6, 15):
            self.assertIn(count, counts)


class Refusals(unittest.TestCase):

    def test_no_net(self):
        for n, net in model.NO_NETS:
            for d in (0, 1, 2, 3, 21, BIG):
                told = list(net)
                self.assertEqual(twins(n, d, told), [-22], (n, d, net))
                self.assertEqual(told, net)

    def test_seven_places_and_ten_links_are_not_refused(self):
        self.assertEqual(twins(7, 0, [0, 1, 1, 2, 2, 3, 3, 4, 4, 5, 5, 6]), [0])
        self.assertEqual(len(twins(6, 0, model.ELEVEN_LINKS[:20])) % 2, 1)

    def test_what_others_are_refused_for_is_not_refused(self):
        # No bound of d or of exits is told of twins, and there are no places u, v.
        for d in (3, 20, 21, BIG - 1, BIG):
            self.assertEqual(twins(2, d, TWO), [0])
        for d in (0, 3, BIG):
            self.assertEqual(twins(7, d, STAR_OF_SIX), [0])

    def test_wrong_in_several_ways_at_once(self):
        for n, net in ((0, [0]), (BIG, [BIG] * 23), (8, [0, 0]), (2, [0, 1, 1, 0, BIG]), (3, [0, 0, 0, 0])):
            self.assertEqual(twins(n, BIG, net), [-22], (n, net))


class AnyInput(unittest.TestCase):

    def test_one_list_of_whole_numbers_the_same_each_time(self):
        chance = random.Random(26)
        for turn in range(3000):
            top = chance.choice((2, 3, 8, BIG))
            n = chance.choice((chance.randint(0, 8), chance.randint(0, top)))
            d = chance.choice((0, 1, 2, chance.randint(0, top)))
            net = [chance.randint(0, top) for place in range(chance.randint(0, 24))]
            if 1 <= n <= 7 and chance.random() < 0.5:
                net = model.some_net(chance, n)
            told = list(net)
            answer = twins(n, d, told)
            self.assertEqual(told, net)
            self.assertEqual(twins(n, d, told), answer)
            self.assertIs(type(answer), list)
            self.assertTrue(all(type(number) is int for number in answer))
            if not model.is_net(n, net):
                self.assertEqual(answer, [-22])
            else:
                self.assertTrue(all(number >= 0 for number in answer))
                self.assertEqual(len(answer), 1 + 2 * answer[0])
                self.assertEqual(answer, model.twins(n, d, net), (n, d, net))


if __name__ == "__main__":
    unittest.main()

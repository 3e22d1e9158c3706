"""Points 1 and 3 of the document as far as they speak of found."""

import itertools
import random
import unittest

from netmeeting.meeting import can, found, meets, near
from tests import model
from tests.model import BIG

TWO = [0, 1]
PATH_OF_THREE = [0, 1, 1, 2]
PATH_OF_FOUR = [0, 1, 1, 2, 2, 3]
# 0 and 3 hang at the two ends of a path whose middle link is told last.
MIRRORED_PATH_OF_FOUR = [0, 1, 3, 2, 1, 2]
RING_OF_THREE = [0, 1, 1, 2, 2, 0]
PAIRED_RING_OF_FOUR = [0, 1, 2, 3, 1, 2, 3, 0]
PAIRED_RING_OF_SIX = [0, 1, 2, 3, 4, 5, 1, 2, 3, 4, 5, 0]
# 3 and 2 are alike and never nearer than 3.
FAR_RING_OF_SIX = [1, 4, 5, 0, 2, 5, 4, 2, 1, 3, 3, 0]
STAR_OF_FOUR = [0, 1, 0, 2, 0, 3, 0, 4]
STAR_OF_FIVE = [0, 1, 0, 2, 0, 3, 0, 4, 0, 5]
STAR_OF_SIX = [0, 1, 0, 2, 0, 3, 0, 4, 0, 5, 0, 6]


class OrdinaryNets(unittest.TestCase):

    def test_u_is_v(self):
        for d in range(3):
            self.assertEqual(found(1, 0, 0, d, []), [0])
            self.assertEqual(found(2, 1, 1, d, TWO), [0])
            for place in range(4):
                self.assertEqual(found(4, place, place, d, PAIRED_RING_OF_FOUR), [0])

    def test_two_places(self):
        for u, v in ((0, 1), (1, 0)):
            self.assertEqual(found(2, u, v, 0, TWO), [-33])
            self.assertEqual(found(2, u, v, 1, TWO), [1, 1])
            self.assertEqual(found(2, u, v, 2, TWO), [1, 1])

    def test_one_that_stands_is_met(self):
        self.assertEqual(found(3, 0, 1, 1, PATH_OF_THREE), [1, 1])
        self.assertEqual(found(3, 0, 2, 2, PATH_OF_THREE), [2, 1, 2])
        self.assertEqual(found(4, 0, 2, 2, PATH_OF_FOUR), [2, 1, 2])

    def test_the_first_stands_and_is_met(self):
        # Behind 2 steps both are in 1: the first went there at once and stood, the second came a step later.
        self.assertEqual(found(3, 0, 2, 1, PATH_OF_THREE), [2, 1, 0])
        # By 1, 2, 0 they'd be in 2 behind 3 steps too; to stand sooner is the first of both words.
        self.assertEqual(meets(4, 0, 3, 2, PATH_OF_FOUR, [1, 2, 0]), [3, 2])
        self.assertEqual(found(4, 0, 3, 2, PATH_OF_FOUR), [3, 1, 0, 2])

    def test_the_letter_by_which_the_first_stands_is_one_by_which_the_second_goes(self):
        # The first is at an end of the path, where there's no exit for letter 2.
        self.assertEqual(found(3, 2, 1, 0, PATH_OF_THREE), [1, 2])
        self.assertEqual(found(4, 2, 1, 1, [0, 2, 1, 3, 0, 1]), [2, 2, 1])
        self.assertEqual(found(5, 4, 0, 2, [1, 2, 1, 4, 3, 0, 2, 0]), [3, 2, 1, 1])

    def test_not_later(self):
        self.assertEqual(found(3, 0, 2, 0, PATH_OF_THREE), [1, 1])
        self.assertEqual(found(3, 0, 1, 0, PATH_OF_THREE), [2, 2, 1])
        self.assertEqual(found(7, 5, 4, 0, [1, 2, 0, 6, 5, 4, 3, 4, 1, 3, 0, 5, 4, 0]), [6, 2, 1, 2, 1, 2, 1])

    def test_of_like_words_the_first(self):
        # From 0 to 2 both ways round the ring are of 2 steps.
        self.assertEqual(found(4, 0, 2, 2, PAIRED_RING_OF_FOUR), [2, 1, 2])
        self.assertEqual(found(4, 2, 0, 2, PAIRED_RING_OF_FOUR), [2, 1, 2])
        self.assertEqual(found(4, 0, 2, 2, [3, 0, 1, 2, 0, 1, 2, 3]), [2, 1, 2])

    def test_ring(self):
        self.assertEqual(found(3, 0, 1, 0, RING_OF_THREE), [1, 2])
        self.assertEqual(found(3, 0, 1, 1, RING_OF_THREE), [1, 1])
        self.assertEqual(found(6, 0, 3, 0, PAIRED_RING_OF_SIX), [-33])
        self.assertEqual(found(6, 0, 3, 1, PAIRED_RING_OF_SIX), [2, 1, 2])

    def test_alike_and_later_by_less(self):
        self.assertEqual(found(4, 0, 1, 0, PAIRED_RING_OF_FOUR), [-33])
        self.assertEqual(found(4, 0, 2, 0, PAIRED_RING_OF_FOUR), [-33])
        self.assertEqual(found(4, 0, 2, 1, PAIRED_RING_OF_FOUR), [-33])
        self.assertEqual(found(4, 0, 3, 0, MIRRORED_PATH_OF_FOUR), [-33])
        for d in range(3):
            self.assertEqual(found(6, 3, 2, d, FAR_RING_OF_SIX), [-33])

    def test_alike_and_later_by_as_much(self):
        self.assertEqual(found(4, 0, 1, 1, PAIRED_RING_OF_FOUR), [1, 1])
        self.assertEqual(found(4, 0, 3, 1, MIRRORED_PATH_OF_FOUR), [2, 1, 2])

    def test_not_alike_and_yet_no_word_does_it(self):
        path, thick = [0, 2, 1, 3, 2, 1], [3, 4, 2, 5, 0, 4, 1, 5, 0, 3, 1, 2, 3, 5, 2, 4, 0, 5, 1, 4]
        self.assertEqual(near(4, 0, 1, path), [-33])
        self.assertEqual(found(4, 0, 1, 0, path), [-33])
        self.assertEqual(found(4, 0, 1, 1, path), model.found_by_trying(4, 0, 1, 1, path, 4))
        self.assertEqual(near(6, 0, 2, thick), [-33])
        self.assertEqual(found(6, 0, 2, 1, thick), [-33])

    def test_place_with_one_exit_beside_one_with_four(self):
        self.assertEqual(found(5, 1, 2, 0, STAR_OF_FOUR), [1, 1])
        self.assertEqual(found(5, 1, 0, 0, STAR_OF_FOUR), [2, 2, 1])
        self.assertEqual(found(5, 4, 0, 0, STAR_OF_FOUR), [1, 4])
        self.assertEqual(found(5, 0, 4, 2, STAR_OF_FOUR), [1, 4])
        self.assertEqual(found(5, 1, 4, 2, STAR_OF_FOUR), [2, 1, 4])


class AgainstTheModel(unittest.TestCase):

    def check(self, n, net):
        """All places and all d: the answers, which are the model's."""
        answers = []
        for d in range(3):
            told = model.ranks(n, d, net)
            for u, v in itertools.product(range(n), repeat=2):
                handed = list(net)
                answer = found(n, u, v, d, handed)
                self.assertEqual(handed, net)
                self.assertEqual(answer, model.found(n, u, v, d, net, told), (n, u, v, d, net))
                answers.append((u, v, d, answer))
        return answers

    def test_all_words_tried_on_all_nets_up_to_three_places(self):
        for n in (1, 2, 3):
            pairs = list(itertools.combinations(range(n), 2))
            for count in range(len(pairs) + 1):
                for links in itertools.permutations(pairs, count):
                    net = [place for link in links for place in link]
                    if not model.is_net(n, net):
                        self.assertEqual(found(n, 0, 0, 0, net), [-22])
                        continue
                    for u, v, d, answer in self.check(n, net):
                        tried = model.found_by_trying(n, u, v, d, net, 5)
                        self.assertEqual(answer, tried or [-33], (n, u, v, d, net))

    def test_all_words_tried_on_some_nets_of_four(self):
        chance = random.Random(12)
        for turn in range(8):
            net = model.some_net(chance, 4)
            for u, v, d in itertools.product(range(4), range(4), range(3)):
                answer = found(4, u, v, d, net)
                tried = model.found_by_trying(4, u, v, d, net, 4)
                if tried is None:
                    self.assertTrue(answer == [-33] or answer[0] > 4, (u, v, d, net))
                else:
                    self.assertEqual(answer, tried, (u, v, d, net))

    def test_some_nets(self):
        chance = random.Random(13)
        for n in (4, 5, 6, 7):
            for turn in range(10):
                net = model.some_net(chance, n)
                while max(net.count(place) for place in net) > 4:
                    net = model.some_net(chance, n)
                self.check(n, net)

    def test_nets_with_alike_places(self):
        chance = random.Random(14)
        for n in (2, 4, 6):
            for turn in range(12):
                net = model.mirrored_net(chance, n)
                while max(net.count(place) for place in net) > 4:
                    net = model.mirrored_net(chance, n)
                for u, v, d, answer in self.check(n, net):
                    nearest = near(n, u, v, net)[0]
                    if nearest >= 0:
                        self.assertEqual(answer == [-33], d < nearest, (n, u, v, d, net))
                    if can(n, u, v, d, net) == [0]:
                        self.assertEqual(answer, [-33], (n, u, v, d, net))

    def test_long_words(self):
        cases = (
            (7, 0, 4, 0, [5, 4, 2, 1, 4, 1, 3, 6, 1, 0, 6, 2, 5, 0], [1, 1, 2, 3, 1, 2, 1, 2, 1]),
            (7, 2, 6, 0, [1, 0, 1, 5, 6, 2, 3, 4, 6, 4, 6, 0, 5, 3, 1, 2, 6, 3], [2, 1, 3, 3]),
            (7, 4, 5, 1, [6, 5, 2, 3, 2, 1, 1, 0, 4, 0, 6, 3], [1, 1, 1, 1, 2, 1]),
            (7, 1, 2, 1, [6, 0, 4, 3, 3, 2, 1, 6, 1, 3, 3, 5, 6, 2], [1, 4, 2, 2, 4]),
            (7, 2, 5, 2, [5, 3, 1, 2, 1, 6, 3, 0, 0, 2, 6, 4, 4, 5], [1, 2, 2, 1, 0, 1]),
            (7, 5, 2, 2, [5, 0, 4, 5, 6, 2, 3, 2, 6, 4, 4, 1, 0, 3], [2, 3, 1, 2, 1]),
        )
        for n, u, v, d, net, word in cases:
            self.assertEqual(found(n, u, v, d, net), [len(word)] + word)
            self.assertEqual(model.found(n, u, v, d, net), [len(word)] + word)

    def test_by_the_word_found_they_meet_as_it_ends(self):
        chance = random.Random(15)
        longest = 0
        for turn in range(120):
            n = chance.randint(2, 7)
            net = model.some_net(chance, n)
            for d, u, v in itertools.product(range(3), range(n), range(n)):
                answer = found(n, u, v, d, net)
                if answer[0] >= 0:
                    self.assertEqual(len(answer), 1 + answer[0])
                    self.assertEqual(model.meets(u, v, d, net, answer[1:])[0], answer[0], (n, u, v, d, net))
                    self.assertEqual(meets(n, u, v, d, net, answer[1:])[0], answer[0])
                    longest = max(longest, answer[0])
        self.assertGreater(longest, 4)


class Refusals(unittest.TestCase):

    def refused(self, number, n, u, v, d, net):
        told = list(net)
        self.assertEqual(found(n, u, v, d, told), [number], (n, u, v, d, net))
        self.assertEqual(told, net)

    def test_no_net(self):
        for n, net in model.NO_NETS:
            for d in range(3):
                self.refused(-22, n, 0, 0, d, net)

    def test_no_such_place(self):
        for d in range(3):
            self.refused(-2, 1, 1, 0, d, [])
            self.refused(-2, 1, 0, 1, d, [])
            self.refused(-2, 2, 2, 0, d, TWO)
            self.refused(-2, 2, 1, 2, d, TWO)
            self.refused(-2, 2, 2, 2, d, TWO)
            self.refused(-2, 2, BIG, 0, d, TWO)
            self.refused(-2, 2, 0, BIG, d, TWO)

    def test_too_late(self):
        for d in (3, 4, 20, 21, BIG):
            self.refused(-75, 1, 0, 0, d, [])
            self.refused(-75, 2, 0, 1, d, TWO)
            self.refused(-75, 2, 1, 1, d, TWO)

    def test_more_than_four_exits(self):
        whole_of_five = [place for link in itertools.combinations(range(5), 2) for place in link]
        for d in (0, 1, 2, 3, BIG):
            self.refused(-75, 6, 0, 1, d, STAR_OF_FIVE)
            self.refused(-75, 6, 1, 1, d, STAR_OF_FIVE)
            self.refused(-75, 7, 1, 2, d, STAR_OF_SIX)
            # The place with five exits is told last.
            self.refused(-75, 6, 0, 1, d, [5, 0, 1, 5, 5, 2, 3, 5, 5, 4])
        for d in range(3):
            self.assertEqual(found(5, 0, 0, d, STAR_OF_FOUR), [0])
            self.assertEqual(found(5, 4, 4, d, whole_of_five), [0])

    def test_the_one_told_first(self):
        for n, net in model.NO_NETS:
            self.refused(-22, n, BIG, 0, 0, net)
            self.refused(-22, n, 0, BIG, 3, net)
            self.refused(-22, n, BIG, BIG, BIG, net)
        self.refused(-22, 7, 0, 0, 3, STAR_OF_FIVE)
        self.refused(-2, 2, 2, 0, 3, TWO)
        self.refused(-2, 2, 0, 2, BIG, TWO)
        self.refused(-2, 6, 6, 0, 0, STAR_OF_FIVE)
        self.refused(-2, 6, 0, BIG, 3, STAR_OF_FIVE)
        # With d of 0 they'd never meet.
        self.refused(-75, 2, 0, 1, 3, TWO)


class AnyInput(unittest.TestCase):

    def test_one_list_of_whole_numbers_the_same_each_time(self):
        chance = random.Random(16)
        for turn in range(3000):
            top = chance.choice((2, 3, 8, BIG))
            n, u, v = (chance.choice((chance.randint(0, 8), chance.randint(0, top))) for name in "nuv")
            d = chance.choice((chance.randint(0, 4), chance.randint(0, top)))
            net = [chance.randint(0, top) for place in range(chance.randint(0, 24))]
            if 1 <= n <= 7 and chance.random() < 0.6:
                net = model.some_net(chance, n)
            told = list(net)
            answer = found(n, u, v, d, told)
            self.assertEqual(told, net)
            self.assertEqual(found(n, u, v, d, told), answer)
            self.assertIs(type(answer), list)
            self.assertTrue(all(type(number) is int for number in answer))
            if not model.is_net(n, net):
                self.assertEqual(answer, [-22])
            elif u >= n or v >= n:
                self.assertEqual(answer, [-2])
            elif d > 2 or any(net.count(place) > 4 for place in net):
                self.assertEqual(answer, [-75])
            elif answer != [-33]:
                self.assertTrue(all(number >= 0 for number in answer))
                self.assertEqual(len(answer), 1 + answer[0])


if __name__ == "__main__":
    unittest.main()

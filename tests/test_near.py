"""Points 1 and 2 of the document as far as they speak of near."""

import itertools
import random
import unittest

from netmeeting.meeting import near
from tests import model
from tests.model import BIG

PAIRED_RING_OF_FOUR = [0, 1, 2, 3, 1, 2, 3, 0]
PAIRED_RING_OF_SIX = [0, 1, 2, 3, 4, 5, 1, 2, 3, 4, 5, 0]
RING_OF_FOUR_IN_A_ROW = [0, 1, 1, 2, 2, 3, 3, 0]
PATH_OF_THREE = [0, 1, 1, 2]


class OrdinaryNets(unittest.TestCase):

    def test_one_place(self):
        self.assertEqual(near(1, 0, 0, []), [0, 0])

    def test_two_places(self):
        self.assertEqual(near(2, 0, 1, [0, 1]), [1, 0])
        self.assertEqual(near(2, 1, 0, [0, 1]), [1, 0])
        self.assertEqual(near(2, 0, 1, [1, 0]), [1, 0])

    def test_u_is_v(self):
        for net in (PAIRED_RING_OF_FOUR, RING_OF_FOUR_IN_A_ROW):
            for place in range(4):
                self.assertEqual(near(4, place, place, net), [0, 0])

    def test_rings_that_go_alike(self):
        self.assertEqual(near(4, 0, 1, PAIRED_RING_OF_FOUR), [1, 0])
        self.assertEqual(near(4, 0, 2, PAIRED_RING_OF_FOUR), [2, 0])
        self.assertEqual(near(6, 0, 1, PAIRED_RING_OF_SIX), [1, 0])
        self.assertEqual(near(6, 0, 2, PAIRED_RING_OF_SIX), [2, 0])

    def test_of_like_words_the_first(self):
        # By letter 1 and by letter 2 alike they come from distance 3 to distance 1.
        self.assertEqual(near(6, 0, 3, PAIRED_RING_OF_SIX), [1, 1, 1])
        self.assertEqual(near(6, 3, 0, PAIRED_RING_OF_SIX), [1, 1, 1])

    def test_ring_told_in_a_row_is_not_alike(self):
        for u, v in itertools.permutations(range(4), 2):
            self.assertEqual(near(4, u, v, RING_OF_FOUR_IN_A_ROW), [-33])

    def test_place_with_one_exit(self):
        # 0 and 2 both have one exit and are told apart by the exit by which one comes in.
        self.assertEqual(near(3, 0, 2, PATH_OF_THREE), [-33])
        # 0 and 3 hang at the two ends of a path whose middle link is told last.
        self.assertEqual(near(4, 0, 3, [0, 1, 3, 2, 1, 2]), [1, 1, 1])
        self.assertEqual(near(4, 1, 2, [0, 1, 3, 2, 1, 2]), [1, 0])
        # The same path with its middle link told first.
        self.assertEqual(near(4, 0, 3, [1, 2, 0, 1, 3, 2]), [1, 1, 1])
        self.assertEqual(near(4, 0, 1, [1, 2, 0, 1, 3, 2]), [-33])

    def test_words_of_two_letters(self):
        self.assertEqual(near(6, 0, 5, [0, 1, 5, 4, 1, 2, 4, 3, 2, 3]), [1, 2, 1, 2])
        self.assertEqual(near(6, 0, 5, [1, 2, 4, 3, 0, 1, 5, 4, 2, 3]), [1, 2, 1, 1])
        self.assertEqual(near(6, 3, 0, [4, 5, 2, 0, 1, 3, 0, 1, 2, 3, 4, 2, 5, 1]), [1, 2, 1, 3])

    def test_as_near_as_two_and_three(self):
        self.assertEqual(near(6, 2, 1, [1, 3, 0, 2, 5, 1, 4, 2, 1, 0, 3, 2]), [2, 0])
        self.assertEqual(near(6, 5, 4, [1, 3, 0, 2, 5, 1, 4, 2, 1, 0, 3, 2]), [2, 1, 1])
        self.assertEqual(near(6, 3, 2, [1, 4, 5, 0, 2, 5, 4, 2, 1, 3, 3, 0]), [3, 0])

    def test_told_apart_far_off_alone(self):
        # Of one path of seven 0 and 6 see the same till the middle, where they come in by different exits.
        self.assertEqual(near(7, 0, 6, [0, 1, 6, 5, 1, 2, 5, 4, 2, 3, 4, 3]), [-33])
        self.assertEqual(near(7, 2, 4, [0, 1, 6, 5, 1, 2, 5, 4, 2, 3, 4, 3]), [-33])

    def test_star_with_six_exits(self):
        star = [0, 1, 0, 2, 0, 3, 0, 4, 0, 5, 0, 6]
        self.assertEqual(near(7, 1, 2, star), [-33])
        self.assertEqual(near(7, 6, 6, star), [0, 0])

    def test_ten_links_are_not_too_many(self):
        whole_of_five = [place for link in itertools.combinations(range(5), 2) for place in link]
        self.assertEqual(len(whole_of_five), 20)
        self.assertEqual(near(5, 3, 3, whole_of_five), [0, 0])


class AgainstTheModel(unittest.TestCase):

    def check(self, n, net, longest):
        for u, v in itertools.product(range(n), repeat=2):
            told = list(net)
            answer = near(n, u, v, told)
            self.assertEqual(told, net)
            if model.are_alike(n, net, u, v):
                self.assertEqual(answer, model.near(n, u, v, net, longest), (n, u, v, net))
            else:
                self.assertEqual(answer, [-33], (n, u, v, net))

    def test_all_nets_up_to_three_places(self):
        for n in (1, 2, 3):
            pairs = list(itertools.combinations(range(n), 2))
            for count in range(len(pairs) + 1):
                for links in itertools.permutations(pairs, count):
                    net = [place for link in links for place in link]
                    if model.is_net(n, net):
                        self.check(n, net, 4)
                    else:
                        self.assertEqual(near(n, 0, 0, net), [-22])

    def test_some_nets(self):
        chance = random.Random(1)
        for n in (4, 5, 6, 7):
            for turn in range(10):
                self.check(n, model.some_net(chance, n), 3)

    def test_nets_with_alike_places(self):
        chance = random.Random(2)
        for turn in range(60):
            self.check(4, model.mirrored_net(chance, 4), 3)
        for turn in range(12):
            net = model.mirrored_net(chance, 6)
            for u, v in ((0, 1), (1, 0), (2, 3), (4, 5)):
                self.assertEqual(near(6, u, v, net), model.near(6, u, v, net, 4), (u, v, net))

    def test_never_nearer_than_told_and_so_near_by_the_word(self):
        chance = random.Random(3)
        for turn in range(100):
            net = model.mirrored_net(chance, 6)
            used, steps = model.table(6, net)
            for u, v in ((0, 1), (3, 2), (4, 5)):
                answer = near(6, u, v, net)
                a, b = model.gone(u, answer[2:], steps)[0], model.gone(v, answer[2:], steps)[0]
                self.assertEqual(len(answer), 2 + answer[1])
                self.assertEqual(model.distance(6, net, a, b), answer[0])
                a, b = u, v
                for turn in range(60):
                    letter = chance.randrange(used)
                    a, b = steps[a, letter][0], steps[b, letter][0]
                    self.assertGreaterEqual(model.distance(6, net, a, b), answer[0])


class Refusals(unittest.TestCase):

    def refused(self, number, n, u, v, net):
        told = list(net)
        self.assertEqual(near(n, u, v, told), [number], (n, u, v, net))
        self.assertEqual(told, net)

    def test_no_such_count_of_places(self):
        self.refused(-22, 0, 0, 0, [])
        self.refused(-22, 8, 0, 0, [0, 1, 1, 2, 2, 3, 3, 4, 4, 5, 5, 6, 6, 7])
        self.refused(-22, BIG, 0, 0, [])
        self.refused(-22, BIG, 0, 0, [0, 1])

    def test_seven_places_are_not_too_many(self):
        self.assertEqual(near(7, 6, 6, [0, 1, 1, 2, 2, 3, 3, 4, 4, 5, 5, 6]), [0, 0])

    def test_odd_length(self):
        self.refused(-22, 1, 0, 0, [0])
        self.refused(-22, 2, 0, 0, [0, 1, 0])
        self.refused(-22, 3, 0, 0, [0, 1, 1, 2, 2])

    def test_more_than_ten_links(self):
        eleven = [place for link in list(itertools.combinations(range(6), 2))[:11] for place in link]
        self.refused(-22, 6, 0, 0, eleven)
        self.refused(-22, 6, 0, 0, eleven + [4, 5])
        self.assertEqual(near(6, 0, 0, eleven[:20]), [0, 0])

    def test_link_from_a_place_to_itself(self):
        self.refused(-22, 1, 0, 0, [0, 0])
        self.refused(-22, 2, 0, 0, [0, 1, 1, 1])

    def test_two_links_between_the_same_places(self):
        self.refused(-22, 2, 0, 1, [0, 1, 0, 1])
        self.refused(-22, 2, 0, 1, [0, 1, 1, 0])
        self.refused(-22, 3, 0, 1, [2, 1, 0, 1, 1, 2])

    def test_link_to_a_place_that_is_not_there(self):
        self.refused(-22, 1, 0, 0, [0, 1])
        self.refused(-22, 2, 0, 0, [0, 1, 1, 2])
        self.refused(-22, 2, 0, 0, [0, 1, 2, 1])
        self.refused(-22, 2, 0, 0, [0, BIG])
        self.refused(-22, 2, 0, 0, [BIG, 1])
        self.refused(-22, 2, 0, 0, [BIG] * 24)

    def test_places_that_do_not_hang_together(self):
        self.refused(-22, 2, 0, 0, [])
        self.refused(-22, 3, 0, 1, [0, 1])
        self.refused(-22, 3, 0, 1, [1, 2])
        self.refused(-22, 4, 0, 0, [0, 1, 2, 3])
        self.refused(-22, 6, 0, 0, [0, 1, 1, 2, 2, 0, 3, 4, 4, 5, 5, 3])

    def test_no_such_place(self):
        self.refused(-2, 1, 1, 0, [])
        self.refused(-2, 1, 0, 1, [])
        self.refused(-2, 2, 2, 0, [0, 1])
        self.refused(-2, 2, 1, 2, [0, 1])
        self.refused(-2, 2, 2, 2, [0, 1])
        self.refused(-2, 2, BIG, 0, [0, 1])
        self.refused(-2, 2, 0, BIG, [0, 1])

    def test_the_one_told_first(self):
        self.refused(-22, 0, BIG, BIG, [])
        self.refused(-22, 2, 2, 0, [0, 1, 0])
        self.refused(-22, 3, 0, 3, [0, 1])
        self.refused(-2, 3, 0, 3, PATH_OF_THREE)
        self.refused(-2, 3, 3, 1, PATH_OF_THREE)
        self.refused(-33, 3, 0, 1, PATH_OF_THREE)


class AnyInput(unittest.TestCase):

    def test_one_list_of_whole_numbers_the_same_each_time(self):
        chance = random.Random(4)
        for turn in range(4000):
            top = chance.choice((2, 3, 4, 8, BIG))
            n, u, v = (chance.choice((chance.randint(0, 8), chance.randint(0, top))) for name in "nuv")
            net = [chance.randint(0, top) for place in range(chance.randint(0, 24))]
            told = list(net)
            answer = near(n, u, v, told)
            self.assertEqual(told, net)
            self.assertEqual(near(n, u, v, told), answer)
            self.assertIs(type(answer), list)
            self.assertTrue(all(type(number) is int for number in answer))
            if not model.is_net(n, net):
                self.assertEqual(answer, [-22])
            elif u >= n or v >= n:
                self.assertEqual(answer, [-2])
            elif answer != [-33]:
                self.assertTrue(all(number >= 0 for number in answer))
                self.assertEqual(len(answer), 2 + answer[1])


if __name__ == "__main__":
    unittest.main()

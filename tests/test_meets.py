"""Points 1 and 3 of the document as far as they speak of meets."""

import itertools
import random
import unittest

from netmeeting.meeting import meets
from tests import model
from tests.model import BIG

TWO = [0, 1]
PATH_OF_THREE = [0, 1, 1, 2]
PATH_OF_FOUR = [0, 1, 1, 2, 2, 3]
# Each place's exit 0 leads along the ring's first three links, exit 1 along the last three.
PAIRED_RING_OF_SIX = [0, 1, 2, 3, 4, 5, 1, 2, 3, 4, 5, 0]
RING_OF_THREE = [0, 1, 1, 2, 2, 0]
STAR = [0, 1, 0, 2, 0, 3, 0, 4, 0, 5, 0, 6]


class OrdinaryWords(unittest.TestCase):

    def test_u_is_v(self):
        for word in ([], [1], [1] * 30):
            for d in (0, 1, 20):
                self.assertEqual(meets(1, 0, 0, d, [], word), [0, 0])
                self.assertEqual(meets(4, 2, 2, d, PATH_OF_FOUR, word), [0, 2])

    def test_empty_word(self):
        for d in (0, 1, 20):
            self.assertEqual(meets(2, 0, 1, d, TWO, []), [-33])
            self.assertEqual(meets(2, 1, 1, d, TWO, []), [0, 1])

    def test_two_places(self):
        self.assertEqual(meets(2, 0, 1, 0, TWO, [1]), [-33])
        self.assertEqual(meets(2, 0, 1, 0, TWO, [1] * 30), [-33])
        self.assertEqual(meets(2, 0, 1, 1, TWO, [1]), [1, 1])
        self.assertEqual(meets(2, 1, 0, 1, TWO, [1]), [1, 0])
        self.assertEqual(meets(2, 0, 1, 1, TWO, [0, 1]), [2, 1])
        self.assertEqual(meets(2, 0, 1, 1, TWO, [0, 0]), [-33])

    def test_one_that_stands_is_met(self):
        self.assertEqual(meets(4, 0, 3, 3, PATH_OF_FOUR, [1, 2, 2]), [3, 3])
        self.assertEqual(meets(4, 0, 3, 20, PATH_OF_FOUR, [0, 1, 0, 2, 2, 1]), [5, 3])

    def test_one_that_stands_by_a_letter_is_met(self):
        # Letter 2 leads from 1 to 2; the ends of the path have one exit, so by letter 2 one stands there.
        self.assertEqual(meets(3, 2, 1, 0, PATH_OF_THREE, [2]), [1, 2])
        self.assertEqual(meets(3, 1, 2, 0, PATH_OF_THREE, [2]), [1, 2])
        self.assertEqual(meets(3, 1, 0, 0, PATH_OF_THREE, [2]), [-33])

    def test_the_word_ends_ahead_of_the_second(self):
        # The first stands in 1 from step 1 on; the second begins in 2 behind 5 steps.
        self.assertEqual(meets(3, 0, 2, 5, PATH_OF_THREE, [1]), [6, 1])
        self.assertEqual(meets(4, 0, 3, 5, PATH_OF_FOUR, [1]), [-33])
        self.assertEqual(meets(4, 0, 3, 5, PATH_OF_FOUR, [1, 0]), [-33])
        self.assertEqual(meets(4, 0, 3, 20, PATH_OF_FOUR, [1, 1, 1]), [22, 1])

    def test_met_at_the_very_last_step(self):
        self.assertEqual(meets(3, 2, 0, 0, PATH_OF_THREE, [0] * 29 + [1]), [30, 1])
        self.assertEqual(meets(3, 2, 0, 20, PATH_OF_THREE, [0] * 29 + [1]), [50, 1])

    def test_not_later(self):
        self.assertEqual(meets(3, 0, 2, 0, PATH_OF_THREE, [1]), [1, 1])
        self.assertEqual(meets(3, 0, 2, 0, PATH_OF_THREE, [0, 0, 1, 1]), [3, 1])
        self.assertEqual(meets(3, 0, 1, 0, PATH_OF_THREE, [1]), [-33])

    def test_first_step_counts(self):
        # They are in one place behind 1 step and again behind 2.
        self.assertEqual(meets(3, 0, 2, 0, PATH_OF_THREE, [1, 1]), [1, 1])

    def test_to_cross_on_a_link_is_not_to_meet(self):
        self.assertEqual(meets(4, 1, 2, 0, PATH_OF_FOUR, [1]), [-33])
        self.assertEqual(meets(2, 0, 1, 0, TWO, [1, 1, 1]), [-33])

    def test_ring(self):
        self.assertEqual(meets(3, 0, 1, 0, RING_OF_THREE, [2]), [1, 2])
        self.assertEqual(meets(3, 0, 1, 1, RING_OF_THREE, [1]), [1, 1])
        self.assertEqual(meets(6, 0, 3, 0, PAIRED_RING_OF_SIX, [1, 2] * 15), [-33])
        self.assertEqual(meets(6, 0, 3, 1, PAIRED_RING_OF_SIX, [1, 2]), [2, 2])
        self.assertEqual(meets(6, 0, 3, 3, PAIRED_RING_OF_SIX, [1, 2, 1]), [3, 3])

    def test_place_with_one_exit(self):
        self.assertEqual(meets(7, 1, 2, 0, STAR, [1]), [1, 0])
        self.assertEqual(meets(7, 1, 6, 2, STAR, [1, 6]), [2, 6])
        self.assertEqual(meets(7, 1, 6, 2, STAR, [2, 6]), [-33])

    def test_letter_of_an_exit_that_is_not_there(self):
        self.assertEqual(meets(2, 0, 1, 1, TWO, [2]), [-33])
        self.assertEqual(meets(2, 0, 1, 1, TWO, [BIG]), [-33])
        self.assertEqual(meets(2, 0, 1, 3, TWO, [BIG, 2, 1]), [3, 1])
        self.assertEqual(meets(3, 1, 0, 0, PATH_OF_THREE, [3]), [-33])

    def test_longest_word_and_latest_second(self):
        self.assertEqual(meets(2, 0, 1, 20, TWO, [0] * 19 + [1] + [0] * 10), [20, 1])
        self.assertEqual(meets(2, 0, 1, 20, TWO, [0] * 29 + [1]), [30, 1])


class AgainstTheModel(unittest.TestCase):

    def check(self, n, u, v, d, net, word):
        told, letters = list(net), list(word)
        answer = meets(n, u, v, d, told, letters)
        self.assertEqual((told, letters), (net, word))
        self.assertEqual(answer, model.meets(u, v, d, net, word), (n, u, v, d, net, word))
        return answer

    def test_all_short_words_on_small_nets(self):
        for n, net in ((2, TWO), (3, PATH_OF_THREE), (3, RING_OF_THREE), (4, PATH_OF_FOUR)):
            for u, v, d in itertools.product(range(n), range(n), range(4)):
                for count in range(4):
                    for word in itertools.product(range(4), repeat=count):
                        self.check(n, u, v, d, net, list(word))

    def test_some_words_on_some_nets(self):
        chance = random.Random(5)
        answers = []
        for turn in range(4000):
            n = chance.randint(2, 7)
            net = model.some_net(chance, n) if n % 2 or chance.random() < 0.5 else model.mirrored_net(chance, n)
            u, v = chance.randrange(n), chance.randrange(n)
            d = chance.choice((0, 1, 2, chance.randint(0, 20)))
            top = chance.choice((1, 2, 3, 7))
            word = [chance.randint(0, top) for letter in range(chance.choice((2, 5, 30)))]
            answers.append(self.check(n, u, v, d, net, word))
        # Both ends of the promise are gone through: many meet, many don't.
        self.assertGreater(answers.count([-33]), 400)
        self.assertGreater(len([answer for answer in answers if answer[0] > 0]), 400)


class Refusals(unittest.TestCase):

    def refused(self, number, n, u, v, d, net, word):
        told, letters = list(net), list(word)
        self.assertEqual(meets(n, u, v, d, told, letters), [number], (n, u, v, d, net, word))
        self.assertEqual((told, letters), (net, word))

    def test_no_net(self):
        eleven = [place for link in list(itertools.combinations(range(6), 2))[:11] for place in link]
        no_nets = (
            (0, []), (8, [0, 1, 1, 2, 2, 3, 3, 4, 4, 5, 5, 6, 6, 7]), (BIG, []), (BIG, [0, 1]),
            (1, [0]), (2, [0, 1, 0]), (6, eleven), (6, eleven + [4, 5]),
            (1, [0, 0]), (2, [0, 1, 1, 1]), (2, [0, 1, 0, 1]), (2, [0, 1, 1, 0]),
            (1, [0, 1]), (2, [0, 1, 1, 2]), (2, [0, BIG]), (2, [BIG, 1]), (2, [BIG] * 24),
            (2, []), (3, [0, 1]), (4, [0, 1, 2, 3]), (6, [0, 1, 1, 2, 2, 0, 3, 4, 4, 5, 5, 3]),
        )
        for n, net in no_nets:
            self.refused(-22, n, 0, 0, 0, net, [1])
            self.refused(-22, n, BIG, 0, 0, net, [])
            self.refused(-22, n, 0, BIG, BIG, net, [BIG] * 32)

    def test_no_such_place(self):
        self.refused(-2, 1, 1, 0, 0, [], [])
        self.refused(-2, 1, 0, 1, 0, [], [])
        self.refused(-2, 2, 2, 0, 1, TWO, [1])
        self.refused(-2, 2, 0, 2, 1, TWO, [1])
        self.refused(-2, 2, 2, 2, 1, TWO, [1])
        self.refused(-2, 2, BIG, 1, 1, TWO, [1])
        self.refused(-2, 2, 1, BIG, 1, TWO, [1])

    def test_too_many_letters(self):
        self.assertEqual(meets(2, 0, 1, 1, TWO, [1] * 30), [1, 1])
        self.refused(-22, 2, 0, 1, 1, TWO, [1] * 31)
        self.refused(-22, 2, 0, 1, 1, TWO, [0] * 32)
        self.refused(-22, 2, 0, 0, 0, TWO, [0] * 31)

    def test_too_late(self):
        self.assertEqual(meets(2, 0, 1, 20, TWO, [1]), [1, 1])
        self.refused(-22, 2, 0, 1, 21, TWO, [1])
        self.refused(-22, 2, 0, 0, 21, TWO, [])
        self.refused(-22, 2, 0, 1, BIG, TWO, [1])

    def test_the_one_told_first(self):
        self.refused(-2, 2, 2, 0, 21, TWO, [1])
        self.refused(-2, 2, 0, 2, 0, TWO, [1] * 31)
        self.refused(-2, 2, BIG, BIG, BIG, TWO, [BIG] * 32)
        self.refused(-22, 2, 0, 1, 0, TWO, [0] * 31)
        self.refused(-22, 2, 0, 1, 21, TWO, [])
        self.refused(-33, 2, 0, 1, 20, TWO, [0] * 30)


class AnyInput(unittest.TestCase):

    def test_one_list_of_whole_numbers_the_same_each_time(self):
        chance = random.Random(6)
        for turn in range(4000):
            top = chance.choice((2, 3, 8, BIG))
            n, u, v = (chance.choice((chance.randint(0, 8), chance.randint(0, top))) for name in "nuv")
            d = chance.choice((chance.randint(0, 22), chance.randint(0, top)))
            net = [chance.randint(0, top) for place in range(chance.randint(0, 24))]
            if 1 <= n <= 7 and chance.random() < 0.6:
                net = model.some_net(chance, n)
            word = [chance.randint(0, top) for letter in range(chance.randint(0, 32))]
            told, letters = list(net), list(word)
            answer = meets(n, u, v, d, told, letters)
            self.assertEqual((told, letters), (net, word))
            self.assertEqual(meets(n, u, v, d, told, letters), answer)
            self.assertIs(type(answer), list)
            self.assertTrue(all(type(number) is int for number in answer))
            if not model.is_net(n, net):
                self.assertEqual(answer, [-22])
            elif u >= n or v >= n:
                self.assertEqual(answer, [-2])
            elif len(word) > 30 or d > 20:
                self.assertEqual(answer, [-22])
            else:
                self.assertEqual(answer, model.meets(u, v, d, net, word))


if __name__ == "__main__":
    unittest.main()

"""The calls beside one another over one net: what the document says of the whole program."""

import inspect
import itertools
import random
import unittest

from netmeeting import meeting
from netmeeting.meeting import can, found, least, meets, near, twins
from tests import model
from tests.model import BIG


def nets(chance, count):
    """Nets of 1 to 7 places, with alike places and without."""
    for turn in range(count):
        n = chance.randint(1, 7)
        yield n, model.some_net(chance, n)
        n = chance.choice((2, 4, 6))
        yield n, model.renamed(chance, n, model.mirrored_net(chance, n))
        yield n, model.net_of_matchings(chance, n)


def most_exits(net):
    return max([net.count(place) for place in net], default=0)


class OverOneNet(unittest.TestCase):

    def test_a_two_is_told_just_if_can_answers_0(self):
        chance = random.Random(27)
        told, left_out = 0, 0
        for n, net in nets(chance, 25):
            for d in (0, 1, 2, 3, BIG):
                answer = twins(n, d, net)
                twos = list(zip(answer[1::2], answer[2::2]))
                for u, v in itertools.combinations(range(n), 2):
                    self.assertEqual((u, v) in twos, can(n, u, v, d, net) == [0], (n, u, v, d, net))
                    self.assertEqual(can(n, u, v, d, net), can(n, v, u, d, net), (n, u, v, d, net))
                    told += (u, v) in twos
                    left_out += (u, v) not in twos
                for place in range(n):
                    self.assertEqual(can(n, place, place, d, net), [1])
        self.assertGreater(told, 100)
        self.assertGreater(left_out, 100)

    def test_least_near_and_can_agree(self):
        chance = random.Random(28)
        for n, net in nets(chance, 25):
            for u, v in itertools.product(range(n), repeat=2):
                nearest = near(n, u, v, net)[0]
                self.assertEqual(least(n, u, v, net), [max(nearest, 0)], (n, u, v, net))
                for d in range(5):
                    self.assertEqual(can(n, u, v, d, net), [int(nearest <= d)], (n, u, v, d, net))

    def test_by_the_word_that_near_tells_they_come_so_near(self):
        chance = random.Random(29)
        gone = 0
        for n, net in nets(chance, 40):
            steps = model.table(n, net)[1]
            for u, v in itertools.product(range(n), repeat=2):
                answer = near(n, u, v, net)
                if answer != [-33]:
                    self.assertEqual(answer[1], len(answer[2:]))
                    a, b = model.gone(u, answer[2:], steps)[0], model.gone(v, answer[2:], steps)[0]
                    self.assertEqual(model.distance(n, net, a, b), answer[0], (n, u, v, net))
                    self.assertEqual(least(n, u, v, net), answer[:1])
                    gone += u != v
        self.assertGreater(gone, 200)

    def test_by_the_word_found_they_meet_as_it_ends_and_by_no_word_sooner(self):
        chance = random.Random(30)
        met = 0
        for n, net in nets(chance, 20):
            if most_exits(net) > 4:
                continue
            for u, v, d in itertools.product(range(n), range(n), range(3)):
                answer = found(n, u, v, d, net)
                if answer == [-33]:
                    continue
                self.assertEqual(meets(n, u, v, d, net, answer[1:])[0], answer[0], (n, u, v, d, net))
                met += answer[0] > 0
                for count in range(min(answer[0], 3)):
                    for word in itertools.product(range(most_exits(net) + 1), repeat=count):
                        soonest = meets(n, u, v, d, net, list(word))[0]
                        self.assertFalse(0 <= soonest < answer[0], (n, u, v, d, net, word))
        self.assertGreater(met, 200)

    def test_alike_ones_can_be_found_just_if_they_are_later_by_as_much(self):
        chance = random.Random(31)
        ways = {True: 0, False: 0}
        for n, net in nets(chance, 30):
            if most_exits(net) > 4:
                continue
            for u, v, d in itertools.product(range(n), range(n), range(3)):
                if near(n, u, v, net) != [-33]:
                    can_be_found = found(n, u, v, d, net) != [-33]
                    self.assertEqual(can_be_found, least(n, u, v, net)[0] <= d, (n, u, v, d, net))
                    ways[can_be_found] += 1
        self.assertGreater(min(ways.values()), 200)

    def test_the_twos_that_are_told_never_meet(self):
        chance = random.Random(32)
        gone = 0
        for n, net in nets(chance, 40):
            for d in range(3):
                answer = twins(n, d, net)
                for u, v in zip(answer[1::2], answer[2::2]):
                    word = [chance.randint(0, most_exits(net)) for letter in range(30)]
                    self.assertEqual(meets(n, u, v, d, net, word), [-33], (n, u, v, d, net, word))
                    self.assertEqual(meets(n, v, u, d, net, word), [-33], (n, u, v, d, net, word))
                    gone += 1
        self.assertGreater(gone, 200)


class TheInterface(unittest.TestCase):

    def test_names_of_what_is_handed_in(self):
        told = {
            near: "n u v net", meets: "n u v d net word", can: "n u v d net", found: "n u v d net",
            least: "n u v net", twins: "n d net",
        }
        for call, names in told.items():
            parameters = inspect.signature(call).parameters.values()
            self.assertEqual([parameter.name for parameter in parameters], names.split())
            self.assertTrue(all(parameter.default is inspect.Parameter.empty for parameter in parameters))

    def test_nothing_is_kept_at_the_top_but_whole_numbers_and_functions(self):
        for name, value in vars(meeting).items():
            if not name.startswith("__"):
                self.assertTrue(type(value) is int or inspect.isfunction(value), name)

    def test_each_call_is_as_if_for_the_first_time(self):
        chance = random.Random(33)
        calls = []
        for n, net in nets(chance, 20):
            u, v, d = chance.randrange(n), chance.randrange(n), chance.randrange(3)
            calls += [
                (near, (n, u, v, net)), (meets, (n, u, v, d, net, [1, 2, 1])), (can, (n, u, v, d, net)),
                (found, (n, u, v, d, net)), (least, (n, u, v, net)), (twins, (n, d, net)),
            ]
        answers = [call(*handed) for call, handed in calls]
        for place in chance.sample(range(len(calls)), len(calls)):
            call, handed = calls[place]
            again = call(*handed)
            self.assertEqual(again, answers[place])
            # An answer that is changed by who got it changes no later one.
            again.append(BIG)
            self.assertEqual(call(*handed), answers[place])


if __name__ == "__main__":
    unittest.main()

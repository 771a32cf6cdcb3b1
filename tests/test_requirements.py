"""The points 1 to 4 of the document's requirements, also behind remove_rule and set_weight."""

import random
import unittest
from fractions import Fraction

import plain_room
from asking import acting, ask_behind, blocking, check_steps, cheapest, closed, index, minimal_blocking, packed
from asking import remove_rule, set_weight, sufficient


def changed_and_unchanged():
    """The text of each room, its changes, its number of players, the rules and the weights it has then."""
    source = random.Random(29)
    found = []
    for count, rules, weights in plain_room.weighted_rooms():
        found.append((plain_room.room_text(count, rules, weights), [], count, rules, weights))
    for count, rules, rule, left in plain_room.changed_rooms():
        old = plain_room.sample_weights(source, count)
        new = plain_room.sample_weights(source, count)
        changes = [remove_rule(rule)] + [set_weight(player, weight) for player, weight in enumerate(new)]
        found.append((plain_room.room_text(count, rules, old), changes, count, left, new))
    return found


def flags(text, changes, count, call):
    found = ask_behind(text, changes, [call(coalition) for coalition in range(2 ** count)])
    return [answer[1] for answer in found]


def weight_of(weights, coalition):
    return sum(weight for player, weight in enumerate(weights) if coalition & 2 ** player)


class PointOne(unittest.TestCase):
    def test_smallest_closed_coalition(self):
        for text, changes, count, rules, _ in changed_and_unchanged():
            reached = flags(text, changes, count, acting)
            is_closed = flags(text, changes, count, closed)
            closed_ones = [coalition for coalition in range(2 ** count) if is_closed[coalition]]
            for coalition in range(2 ** count):
                around = [other for other in closed_ones if other & coalition == coalition]
                smallest = min(around, key=lambda other: bin(other).count("1"))
                self.assertTrue(all(smallest & other == smallest for other in around))
                self.assertEqual(reached[coalition], smallest, (text, changes, coalition))
                plain = plain_room.smallest_closed(count, rules, plain_room.members(coalition))
                self.assertEqual(reached[coalition], plain_room.number(plain))

    def test_steps_are_valid_and_lead_there(self):
        for text, changes, count, rules, _ in changed_and_unchanged():
            found = ask_behind(text, changes, [acting(coalition) for coalition in range(2 ** count)])
            calls = [check_steps(coalition, answer[3:]) for coalition, answer in enumerate(found)]
            self.assertEqual(ask_behind(text, changes, calls), [[0, 1]] * 2 ** count)
            for coalition, answer in enumerate(found):
                self.assertEqual(answer[3:], plain_room.steps(count, rules, plain_room.members(coalition)))
                self.assertEqual(answer[2], len(answer[3:]) // 2)
                whole = coalition + sum(2 ** player for player in answer[3::2])
                self.assertEqual(whole, answer[1])


class PointTwo(unittest.TestCase):
    def test_sufficient_means_meeting_every_blocking_coalition(self):
        for text, changes, count, _, _ in changed_and_unchanged():
            enough = flags(text, changes, count, sufficient)
            block = flags(text, changes, count, blocking)
            blockers = [coalition for coalition in range(2 ** count) if block[coalition]]
            for coalition in range(2 ** count):
                meets = all(coalition & other for other in blockers)
                self.assertEqual(enough[coalition], int(meets), (text, changes, coalition))

    def test_adding_players_preserves_it(self):
        for text, changes, count, _, _ in changed_and_unchanged():
            for call in (sufficient, blocking):
                found = flags(text, changes, count, call)
                for coalition in range(2 ** count):
                    for player in range(count):
                        self.assertLessEqual(found[coalition], found[coalition | 2 ** player])

    def test_against_the_definition(self):
        for text, changes, count, rules, _ in changed_and_unchanged():
            expected = {plain_room.number(group) for group in plain_room.sufficient(count, rules)}
            enough = flags(text, changes, count, sufficient)
            self.assertEqual({coalition for coalition in range(2 ** count) if enough[coalition]}, expected)


class PointThree(unittest.TestCase):
    def test_no_sufficient_coalition_is_lighter_than_the_cheapest(self):
        for text, changes, count, _, weights in changed_and_unchanged():
            enough = flags(text, changes, count, sufficient)
            weight, coalition = ask_behind(text, changes, [cheapest()])[0][1:]
            self.assertEqual((enough[coalition], weight), (1, weight_of(weights, coalition)))
            for other in range(2 ** count):
                if enough[other]:
                    self.assertLessEqual((weight, coalition), (weight_of(weights, other), other))

    def test_no_sufficient_coalition_is_lighter_than_a_bound(self):
        source = random.Random(31)
        tight = 0
        for text, changes, count, _, weights in changed_and_unchanged():
            least = ask_behind(text, changes, [cheapest()])[0][1]
            block = ask_behind(text, changes, [minimal_blocking()])[0][2:]
            packings = [self.greedy(source, block, weights) for _ in range(20)]
            for answer in ask_behind(text, changes, [packed(packing) for packing in packings]):
                self.assertEqual(answer[:2], [0, 1])
                self.assertLessEqual(answer[2], least)
                tight += answer[2] == least
            for packing in packings:
                if not packing:
                    continue
                # One more than fits for the coalition that was filled up first.
                more = [packing[0], packing[1] + 1] + packing[2:]
                self.assertEqual(ask_behind(text, changes, [packed(more)])[0], [0, 0])
        self.assertGreater(tight, 100)

    def greedy(self, source, block, weights):
        """Blocking coalitions in some order, each with as much as its members have left."""
        left = list(weights)
        packing = []
        for coalition in source.sample(block, min(len(block), 20)):
            inside = [player for player in range(len(weights)) if coalition & 2 ** player]
            most = min(left[player] for player in inside)
            for player in inside:
                left[player] -= most
            packing += [coalition, most]
        return packing


class PointFour(unittest.TestCase):
    def test_power_indices_add_up_to_1(self):
        sizes = set()
        for text, changes, count, _, _ in changed_and_unchanged():
            found = ask_behind(text, changes, [index(player) for player in range(count)])
            self.assertEqual(sum(Fraction(answer[1], answer[2]) for answer in found), 1, (text, changes))
            sizes.add(count)
        self.assertEqual(sizes, set(range(1, 9)))


if __name__ == "__main__":
    unittest.main()

import random
import unittest

import plain_room
from asking import ask_behind, ask_in, cheapest, counts, packed, remove_rule, set_weight, summary


def players(*weights):
    return "".join(f"player {name} weight {weight}\n" for name, weight in zip("abcdefgh", weights))


# Either a, or b and c, or b and d.
SEVERAL = "keep b by a\nkeep c by a\nkeep d by a\nkeep a by b c\nkeep a by b d\n"
TWO_OF_THREE = "keep a by b c\nkeep b by a c\nkeep c by a b\n"


class Cheapest(unittest.TestCase):
    def assert_cheapest(self, text, weight, coalition):
        self.assertEqual(ask_in(text, cheapest())[0], [0, weight, coalition], text)

    def test_smallest_weight(self):
        self.assert_cheapest(players(5, 1, 9, 3) + SEVERAL, 4, 10)
        self.assert_cheapest(players(5, 1, 3, 9) + SEVERAL, 4, 6)
        self.assert_cheapest(players(3, 1, 9, 9) + SEVERAL, 3, 1)

    def test_neither_the_fewest_members_nor_the_smallest_number(self):
        self.assert_cheapest(players(1000, 1, 1, 1) + SEVERAL, 2, 6)
        self.assert_cheapest(players(100, 40, 50, 30) + SEVERAL, 70, 10)

    def test_smallest_number_among_several(self):
        self.assert_cheapest(players(2, 2, 2) + TWO_OF_THREE, 4, 3)
        self.assert_cheapest(players(5, 2, 2) + TWO_OF_THREE, 4, 6)
        self.assert_cheapest(players(2, 1, 1, 1) + SEVERAL, 2, 1)
        self.assert_cheapest(players(3, 1, 1, 1) + SEVERAL, 2, 6)

    def test_smallest_number_with_weights_of_0(self):
        self.assert_cheapest(players(0, 0, 0) + TWO_OF_THREE, 0, 3)
        self.assert_cheapest(players(0, 0, 0, 0) + SEVERAL, 0, 1)
        # The players a and b weigh as little as c alone, and their number is smaller.
        self.assert_cheapest(players(0, 0, 0) + "keep a by c\nkeep b by c\nkeep c by a b\n", 0, 3)
        self.assert_cheapest(players(1, 1, 2) + "keep a by c\nkeep b by c\nkeep c by a b\n", 2, 3)
        # Who weighs nothing and isn't needed stays out.
        self.assert_cheapest(players(0, 5, 0) + "keep a by b\nkeep c by b\n", 5, 2)

    def test_without_rules_all_are_needed(self):
        self.assert_cheapest(players(0), 0, 1)
        self.assert_cheapest(players(1000), 1000, 1)
        self.assert_cheapest(players(0, 0, 0), 0, 7)
        self.assert_cheapest(players(*[1000] * 8), 8000, 255)

    def test_eight_players_and_the_last_suffices(self):
        chain = "".join(f"keep {absent} by {behind}\n" for absent, behind in zip("abcdefg", "bcdefgh"))
        self.assert_cheapest(players(0, 0, 0, 0, 0, 0, 0, 9) + chain, 9, 128)

    def test_against_a_plain_counting(self):
        for count, rules, weights in plain_room.weighted_rooms():
            text = plain_room.room_text(count, rules, weights)
            self.assert_cheapest(text, *plain_room.cheapest(count, rules, weights))


class Packing(unittest.TestCase):
    # Blocking: a with b, and a with c and d, and all that contain these.
    TEXT = players(6, 4, 3, 2) + SEVERAL

    def assert_packed(self, text, packing, expected):
        self.assertEqual(ask_in(text, packed(packing))[0], expected, packing)

    def test_valid(self):
        self.assert_packed(self.TEXT, [3, 4], [0, 1, 4])
        self.assert_packed(self.TEXT, [3, 4, 13, 2], [0, 1, 6])
        self.assert_packed(self.TEXT, [13, 2, 3, 1], [0, 1, 3])
        self.assert_packed(self.TEXT, [15, 2], [0, 1, 2])

    def test_empty(self):
        for text in (self.TEXT, players(0), players(1, 1), players(*[0] * 8)):
            self.assert_packed(text, [], [0, 1, 0])

    def test_at_most_the_weight(self):
        self.assert_packed(self.TEXT, [3, 4], [0, 1, 4])
        self.assert_packed(self.TEXT, [3, 5], [0, 0])
        self.assert_packed(self.TEXT, [13, 2], [0, 1, 2])
        self.assert_packed(self.TEXT, [13, 3], [0, 0])

    def test_the_sum_of_each_player(self):
        # a stands in both: 4 and 2 are as much as it weighs.
        self.assert_packed(players(6, 9, 9, 9) + SEVERAL, [3, 4, 13, 2], [0, 1, 6])
        self.assert_packed(players(5, 9, 9, 9) + SEVERAL, [3, 4, 13, 2], [0, 0])
        for place in range(4):
            weights = [6, 4, 2, 2]
            self.assert_packed(players(*weights) + SEVERAL, [3, 4, 13, 2], [0, 1, 6])
            weights[place] -= 1
            self.assert_packed(players(*weights) + SEVERAL, [3, 4, 13, 2], [0, 0])

    def test_the_same_coalition_twice(self):
        self.assert_packed(self.TEXT, [3, 2, 3, 2], [0, 1, 4])
        self.assert_packed(self.TEXT, [3, 3, 3, 2], [0, 0])
        self.assert_packed(self.TEXT, [13, 1, 3, 1, 13, 1], [0, 1, 3])
        self.assert_packed(self.TEXT, [13, 1, 3, 1, 13, 2], [0, 0])

    def test_not_blocking(self):
        for coalition in (0, 1, 2, 5, 9, 12, 14):
            self.assert_packed(self.TEXT, [coalition, 1], [0, 0])
            self.assert_packed(self.TEXT, [3, 1, coalition, 1], [0, 0])
            self.assert_packed(self.TEXT, [coalition, 1, 3, 1], [0, 0])

    def test_not_blocking_and_a_number_of_0(self):
        self.assert_packed(self.TEXT, [0, 0], [0, 0])
        self.assert_packed(self.TEXT, [3, 1, 14, 0], [0, 0])

    def test_numbers_of_0(self):
        self.assert_packed(self.TEXT, [3, 0], [0, 1, 0])
        self.assert_packed(players(0, 0), [1, 0, 2, 0, 3, 0], [0, 1, 0])
        self.assert_packed(players(0, 0), [1, 0, 2, 1], [0, 0])

    def test_sufficient_is_not_blocking(self):
        # All are needed, so each player alone blocks; with one for all, only that one does.
        self.assert_packed(players(2, 3), [1, 2, 2, 3], [0, 1, 5])
        self.assert_packed(players(2, 3) + "keep a by b\n", [1, 2], [0, 0])
        self.assert_packed(players(2, 3) + "keep a by b\n", [2, 3], [0, 1, 3])

    def test_twenty_pairs(self):
        self.assert_packed(players(20, 20), [3, 1] * 20, [0, 1, 20])
        self.assert_packed(players(20, 20), [3, 1] * 19 + [2, 1], [0, 1, 20])
        self.assert_packed(players(19, 20), [3, 1] * 20, [0, 0])

    def test_largest_number(self):
        self.assert_packed(players(1000), [1, 1000], [0, 1, 1000])
        self.assert_packed(players(1000), [1, 1001], [0, 0])
        self.assert_packed(players(1000), [1, 1000000], [0, 0])

    def test_eight_players(self):
        text = players(*range(1, 9))
        single = [number for player in range(8) for number in (2 ** player, player + 1)]
        self.assert_packed(text, single, [0, 1, 36])
        self.assert_packed(text, single + [128, 1], [0, 0])
        self.assert_packed(text, [255, 1], [0, 1, 1])

    def test_against_a_plain_counting(self):
        source = random.Random(17)
        valid = 0
        for count, rules, weights in plain_room.weighted_rooms():
            listed = [self.some_packing(source, count, rules, weights) for _ in range(40)]
            calls = [packed([number for pair in pairs for number in pair]) for pairs in listed]
            text = plain_room.room_text(count, rules, weights)
            expected = [[0] + plain_room.packing(count, rules, weights, pairs) for pairs in listed]
            self.assertEqual(ask_behind(text, [], calls), expected, text)
            valid += sum(answer[1] for answer in expected)
        self.assertGreater(valid, 100)

    def some_packing(self, source, count, rules, weights):
        """Mostly blocking coalitions, with numbers near to what their members weigh."""
        block = sorted(plain_room.number(group) for group in plain_room.blocking(count, rules))
        listed = []
        for _ in range(source.randint(0, 4)):
            coalition = source.choice(block) if source.random() < 0.9 else source.randrange(2 ** count)
            most = min([weights[player] for player in plain_room.members(coalition)], default=1)
            listed.append((coalition, source.choice((0, 1, most // 2, most))))
        return listed


class SetWeight(unittest.TestCase):
    TEXT = players(6, 4, 3, 2) + SEVERAL

    def test_answers_0_alone(self):
        self.assertEqual(ask_in(self.TEXT, set_weight(0, 1), set_weight(3, 1000)), [[0], [0]])

    def test_cheapest(self):
        found = ask_in(self.TEXT, cheapest(), set_weight(0, 5), cheapest(), set_weight(2, 0), cheapest())
        self.assertEqual(found, [[0, 6, 1], [0], [0, 5, 1], [0], [0, 4, 6]])

    def test_packing(self):
        calls = [packed([3, 4]), set_weight(1, 3), packed([3, 4]), set_weight(1, 1000), packed([3, 6])]
        self.assertEqual(ask_in(self.TEXT, *calls), [[0, 1, 4], [0], [0, 0], [0], [0, 1, 6]])

    def test_summary(self):
        calls = [summary(), set_weight(0, 0), summary(), set_weight(3, 1000), summary()]
        self.assertEqual(ask_in(self.TEXT, *calls), [[0, 4, 5, 15], [0], [0, 4, 5, 9], [0], [0, 4, 5, 1007]])

    def test_each_player_alone(self):
        for player in range(8):
            weights = [1] * 8
            weights[player] = 500
            text = players(*[1] * 8)
            self.assertEqual(ask_in(text, set_weight(player, 500), cheapest())[1], [0, 507, 255])
            packing = [number for other in range(8) for number in (2 ** other, weights[other])]
            self.assertEqual(ask_in(text, packed(packing), set_weight(player, 500), packed(packing)), [
                [0, 0], [0], [0, 1, 507],
            ])

    def test_who_suffices_stays_the_same(self):
        before, _, after = ask_in(self.TEXT, counts(), set_weight(0, 0), counts())
        self.assertEqual(before, after)

    def test_against_a_room_loaded_with_the_weight(self):
        source = random.Random(19)
        for count, rules, weights in plain_room.weighted_rooms():
            changed = list(weights)
            changes = []
            for player in source.sample(range(count), source.randint(1, count)):
                changed[player] = source.randint(0, 1000)
                changes.append(set_weight(player, changed[player]))
            found = ask_behind(plain_room.room_text(count, rules, weights), changes, [cheapest(), summary()])
            best = plain_room.cheapest(count, rules, changed)
            self.assertEqual(found, [[0] + list(best), [0, count, len(rules), sum(changed)]])


class Summary(unittest.TestCase):
    def test_counts_and_total(self):
        self.assertEqual(ask_in(players(0), summary())[0], [0, 1, 0, 0])
        self.assertEqual(ask_in(players(7, 5, 9), summary())[0], [0, 3, 0, 21])
        self.assertEqual(ask_in(players(1, 2, 4, 8) + SEVERAL, summary())[0], [0, 4, 5, 15])
        twenty = players(*[1000] * 8) + "keep a by b\n" * 20
        self.assertEqual(ask_in(twenty, summary())[0], [0, 8, 20, 8000])

    def test_behind_remove_rule(self):
        calls = [remove_rule(5), summary(), remove_rule(1), summary()]
        self.assertEqual(ask_in(players(1, 2, 4, 8) + SEVERAL, *calls), [
            [0, 4], [0, 4, 4, 15], [0, 3], [0, 4, 3, 15],
        ])


if __name__ == "__main__":
    unittest.main()

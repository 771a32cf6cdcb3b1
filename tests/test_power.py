import unittest
from fractions import Fraction

import plain_room
from asking import ask_behind, ask_in, continuation, counts, index, minimal_sufficient, returns, swings


def players(count):
    return "".join(f"player {name} weight 1\n" for name in "abcdefgh"[:count])


# Either a, or b and c, or b and d.
SEVERAL = players(4) + "keep b by a\nkeep c by a\nkeep d by a\nkeep a by b c\nkeep a by b d\n"
TWO_OF_THREE = players(3) + "keep a by b c\nkeep b by a c\nkeep c by a b\n"
# One of the first four and one of the last four, and each of them for the others of the four.
FOURS = players(8)
for four in ("abcd", "efgh"):
    for absent in four:
        others = " ".join(four.replace(absent, ""))
        FOURS += f"keep {absent} by any 1 of {others}\n"


class Returns(unittest.TestCase):
    def assert_returns(self, text, coalition, expected):
        self.assertEqual(ask_in(text, returns(coalition))[0], [0, len(expected)] + expected, (text, coalition))

    def test_sufficient_by_itself(self):
        for coalition in (1, 3, 6, 10, 14, 15):
            self.assert_returns(SEVERAL, coalition, [0])
        self.assert_returns(players(1), 1, [0])
        self.assert_returns(players(8), 255, [0])

    def test_players_who_would_have_to_return(self):
        self.assert_returns(SEVERAL, 2, [1, 4, 8])
        self.assert_returns(SEVERAL, 4, [1, 2])
        self.assert_returns(SEVERAL, 8, [1, 2])
        self.assert_returns(SEVERAL, 12, [1, 2])

    def test_nobody_stays(self):
        self.assert_returns(SEVERAL, 0, [1, 6, 10])
        self.assert_returns(TWO_OF_THREE, 0, [3, 5, 6])
        self.assert_returns(players(1), 0, [1])

    def test_without_rules_all_others_return(self):
        for coalition in range(255):
            self.assert_returns(players(8), coalition, [255 - coalition])

    def test_of_several_sizes_in_increasing_order(self):
        text = players(5) + "keep a by e\nkeep b by e\nkeep c by e\nkeep d by e\nkeep e by a b c\nkeep e by a d\n"
        self.assert_returns(text, 0, [7, 9, 16])
        self.assert_returns(text, 1, [6, 8, 16])
        self.assert_returns(text, 2, [5, 9, 16])
        self.assert_returns(text, 8, [1, 16])

    def test_none_of_the_members_is_told(self):
        for coalition in range(256):
            found = ask_in(FOURS, returns(coalition))[0][2:]
            self.assertEqual([others for others in found if others & coalition], [])

    def test_eight_players(self):
        self.assert_returns(FOURS, 1, [16, 32, 64, 128])
        self.assert_returns(FOURS, 128, [1, 2, 4, 8])
        self.assert_returns(FOURS, 17, [0])

    def test_against_a_plain_counting(self):
        for count, rules in plain_room.sample_rooms():
            text = plain_room.room_text(count, rules)
            coalitions = range(2 ** count)
            found = ask_behind(text, [], [returns(coalition) for coalition in coalitions])
            for coalition in coalitions:
                expected = plain_room.returns(count, rules, plain_room.members(coalition))
                self.assertEqual(found[coalition], [0, len(expected)] + expected, (text, coalition))

    def test_for_nobody_they_are_the_minimal_sufficient_ones(self):
        for count, rules in plain_room.sample_rooms():
            found = ask_in(plain_room.room_text(count, rules), returns(0), minimal_sufficient())
            self.assertEqual(found[0], found[1])


class Swings(unittest.TestCase):
    def assert_swings(self, text, expected):
        found = ask_in(text, *[swings(player) for player in range(len(expected))])
        self.assertEqual(found, [[0, count] for count in expected], text)

    def test_one_player(self):
        self.assert_swings(players(1), [1])

    def test_without_rules(self):
        self.assert_swings(players(8), [1] * 8)

    def test_some_rooms(self):
        self.assert_swings(TWO_OF_THREE, [2, 2, 2])
        self.assert_swings(SEVERAL, [5, 3, 1, 1])
        self.assert_swings(FOURS, [15] * 8)

    def test_who_is_never_needed(self):
        self.assert_swings(players(3) + "keep a by b\nkeep c by b\n", [0, 4, 0])
        chain = "".join(f"keep {absent} by {behind}\n" for absent, behind in zip("abcdefg", "bcdefgh"))
        self.assert_swings(players(8) + chain, [0] * 7 + [128])

    def test_against_a_plain_counting(self):
        for count, rules in plain_room.sample_rooms():
            expected = [plain_room.swings(count, rules, player) for player in range(count)]
            self.assert_swings(plain_room.room_text(count, rules), expected)


class Index(unittest.TestCase):
    def assert_indices(self, text, expected):
        found = ask_in(text, *[index(player) for player in range(len(expected))])
        self.assertEqual(found, [[0] + list(fraction) for fraction in expected], text)

    def test_one_player(self):
        self.assert_indices(players(1), [(1, 1)])

    def test_zero_and_one(self):
        self.assert_indices(players(3) + "keep a by b\nkeep c by b\n", [(0, 1), (1, 1), (0, 1)])

    def test_lowest_terms(self):
        self.assert_indices(TWO_OF_THREE, [(1, 3)] * 3)
        self.assert_indices(SEVERAL, [(7, 12), (1, 4), (1, 12), (1, 12)])

    def test_every_number_of_players(self):
        for count in range(1, 9):
            self.assert_indices(players(count), [(1, count)] * count)
        self.assert_indices(FOURS, [(1, 8)] * 8)

    def test_against_a_count_over_all_orders(self):
        for count, rules in plain_room.sample_rooms():
            expected = [(part.numerator, part.denominator) for part in plain_room.indices(count, rules)]
            self.assert_indices(plain_room.room_text(count, rules), expected)


class Continuation(unittest.TestCase):
    def assert_continuation(self, text, a, b, numerator, denominator):
        self.assertEqual(ask_in(text, continuation(a, b))[0], [0, numerator, denominator], (text, a, b))

    def test_one_player(self):
        self.assert_continuation(players(1), 1, 2, 1, 2)
        self.assert_continuation(players(1), 37, 100, 37, 100)
        self.assert_continuation(players(1), 50, 100, 1, 2)

    def test_nobody_stays_for_sure(self):
        for text in (players(1), SEVERAL, FOURS):
            for b in (1, 2, 99, 100):
                self.assert_continuation(text, 0, b, 0, 1)

    def test_all_stay_for_sure(self):
        for text in (players(1), SEVERAL, FOURS, players(8)):
            for b in (1, 2, 99, 100):
                self.assert_continuation(text, b, b, 1, 1)

    def test_lowest_terms(self):
        self.assert_continuation(TWO_OF_THREE, 1, 2, 1, 2)
        self.assert_continuation(TWO_OF_THREE, 2, 3, 20, 27)
        self.assert_continuation(TWO_OF_THREE, 4, 6, 20, 27)
        self.assert_continuation(SEVERAL, 1, 2, 11, 16)
        self.assert_continuation(SEVERAL, 1, 3, 37, 81)

    def test_eight_players_and_hundredths(self):
        self.assert_continuation(players(8), 99, 100, 99 ** 8, 100 ** 8)
        self.assert_continuation(players(8), 1, 100, 1, 100 ** 8)
        self.assert_continuation(players(8), 50, 100, 1, 256)
        both = (100 ** 4 - 3 ** 4) ** 2
        self.assert_continuation(FOURS, 97, 100, both, 100 ** 8)

    def test_against_a_sum_over_all_coalitions(self):
        for count, rules in plain_room.sample_rooms():
            chances = [(a, b) for b in (1, 2, 3, 10, 77, 100) for a in sorted({0, 1, b // 3, b - 1, b})]
            found = ask_behind(plain_room.room_text(count, rules), [], [continuation(a, b) for a, b in chances])
            for place, (a, b) in enumerate(chances):
                expected = plain_room.continuation(count, rules, a, b)
                self.assertEqual(found[place], [0, expected.numerator, expected.denominator], (rules, a, b))

    def test_every_chance(self):
        chances = [(a, b) for b in range(1, 101) for a in range(b + 1)]
        found = ask_behind(TWO_OF_THREE, [], [continuation(a, b) for a, b in chances])
        for place, (a, b) in enumerate(chances):
            expected = Fraction(3 * a * a * (b - a) + a ** 3, b ** 3)
            self.assertEqual(found[place], [0, expected.numerator, expected.denominator], (a, b))


class Counts(unittest.TestCase):
    def assert_counts(self, text, expected):
        self.assertEqual(ask_in(text, counts())[0], [0, len(expected)] + expected, text)

    def test_each_number_of_players(self):
        for count in range(1, 9):
            self.assert_counts(players(count), [0] * count + [1])

    def test_some_rooms(self):
        self.assert_counts(TWO_OF_THREE, [0, 0, 3, 1])
        self.assert_counts(SEVERAL, [0, 1, 5, 4, 1])
        self.assert_counts(FOURS, [0, 0, 16, 48, 68, 56, 28, 8, 1])

    def test_one_for_all(self):
        chain = "".join(f"keep {absent} by {behind}\n" for absent, behind in zip("abcdefg", "bcdefgh"))
        self.assert_counts(players(8) + chain, [0, 1, 7, 21, 35, 35, 21, 7, 1])

    def test_against_a_plain_counting(self):
        for count, rules in plain_room.sample_rooms():
            self.assert_counts(plain_room.room_text(count, rules), plain_room.counts(count, rules))


if __name__ == "__main__":
    unittest.main()

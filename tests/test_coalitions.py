import unittest

import plain_room
from asking import acting, ask_behind, ask_in, blocking, check_steps, closed
from asking import minimal_blocking, minimal_sufficient, sufficient

EIGHT = "".join(f"player {name} weight 1\n" for name in "abcdefgh")
FIVE = "".join(f"player {name} weight 1\n" for name in "abcde")


def flags(text, call, count):
    """The answers, 1 or 0, of a call for every coalition of a room."""
    found = ask_behind(text, [], [call(coalition) for coalition in range(2 ** count)])
    return [answer[1] for answer in found if answer[0] == 0 and len(answer) == 2]


class Acting(unittest.TestCase):
    def assert_acting(self, text, coalition, expected, steps):
        self.assertEqual(ask_in(text, acting(coalition))[0], [0, expected, len(steps) // 2] + steps)

    def test_round_by_round(self):
        # d can join only behind c, so b and e come first although the rules stand the other way.
        text = FIVE + "keep d by c\nkeep e by a\nkeep b by a\nkeep c by b e\n"
        self.assert_acting(text, 1, 31, [1, 3, 4, 2, 2, 4, 3, 1])

    def test_increasing_order_within_a_round_alone(self):
        text = FIVE + "keep e by a\nkeep d by a\nkeep b by d\nkeep c by e\n"
        self.assert_acting(text, 1, 31, [3, 2, 4, 1, 1, 3, 2, 4])

    def test_nobody_acts_on_those_who_join_in_the_same_round(self):
        # b joins in the first round, so c, for whom b acts, waits for the second.
        text = FIVE + "keep c by b\nkeep b by a\nkeep d by a\n"
        self.assert_acting(text, 1, 15, [1, 2, 3, 3, 2, 1])

    def test_first_enabled_rule(self):
        text = FIVE + "keep c by b d\nkeep c by e\nkeep c by a\nkeep c by a b\n"
        self.assert_acting(text, 1, 5, [2, 3])
        self.assert_acting(text, 3, 7, [2, 3])
        self.assert_acting(text, 11, 15, [2, 1])
        self.assert_acting(text, 17, 21, [2, 2])

    def test_first_rule_enabled_before_the_round(self):
        # When c joins, b joins too; the rule that b would enable stands first, and isn't named.
        text = FIVE + "keep c by b\nkeep b by a\nkeep c by a\n"
        self.assert_acting(text, 1, 7, [1, 2, 2, 3])

    def test_required_numbers(self):
        text = FIVE + "keep e by any 2 of a b c\nkeep d by a b c\n"
        self.assert_acting(text, 1, 1, [])
        self.assert_acting(text, 5, 21, [4, 1])
        self.assert_acting(text, 7, 31, [3, 2, 4, 1])

    def test_members_do_not_join_again(self):
        text = FIVE + "keep a by b\nkeep b by a\n"
        self.assert_acting(text, 3, 3, [])

    def test_nobody_stays(self):
        self.assert_acting(FIVE + "keep a by b\n", 0, 0, [])

    def test_one_player(self):
        self.assert_acting("player a weight 1", 0, 0, [])
        self.assert_acting("player a weight 1", 1, 1, [])

    def test_eight_players_one_a_round(self):
        text = EIGHT + "".join(f"keep {absent} by {behind}\n" for absent, behind in zip("abcdefg", "bcdefgh"))
        self.assert_acting(text, 128, 255, [6, 7, 5, 6, 4, 5, 3, 4, 2, 3, 1, 2, 0, 1])

    def test_twenty_rules(self):
        text = FIVE + "keep b by c\n" * 19 + "keep b by a\n"
        self.assert_acting(text, 1, 3, [1, 20])

    def test_against_the_definitions(self):
        for count, rules in plain_room.sample_rooms():
            text = plain_room.room_text(count, rules)
            found = ask_behind(text, [], [acting(coalition) for coalition in range(2 ** count)])
            for coalition, answer in enumerate(found):
                group = plain_room.members(coalition)
                steps = plain_room.steps(count, rules, group)
                smallest = plain_room.number(plain_room.smallest_closed(count, rules, group))
                self.assertEqual(answer, [0, smallest, len(steps) // 2] + steps, (text, coalition))

    def test_the_steps_are_valid_and_lead_there(self):
        for count, rules in plain_room.sample_rooms():
            text = plain_room.room_text(count, rules)
            coalitions = range(2 ** count)
            found = ask_behind(text, [], [acting(coalition) for coalition in coalitions])
            calls = [check_steps(coalition, found[coalition][3:]) for coalition in coalitions]
            self.assertEqual(ask_behind(text, [], calls), [[0, 1]] * 2 ** count)
            for coalition in coalitions:
                reached = plain_room.members(coalition) | set(found[coalition][3::2])
                self.assertEqual(plain_room.number(reached), found[coalition][1])


class Steps(unittest.TestCase):
    TEXT = FIVE + "keep b by a\nkeep c by b\nkeep d by any 2 of a b c\nkeep c by a\n"

    def assert_steps(self, coalition, steps, expected):
        self.assertEqual(ask_in(self.TEXT, check_steps(coalition, steps))[0], [0, expected], steps)

    def test_valid(self):
        for steps in ([1, 1], [2, 4], [1, 1, 2, 2], [1, 1, 3, 3], [2, 4, 3, 3, 1, 1], [1, 1, 2, 2, 3, 3]):
            self.assert_steps(1, steps, 1)

    def test_empty(self):
        for coalition in (0, 1, 31):
            self.assert_steps(coalition, [], 1)

    def test_not_enabled(self):
        for steps in ([2, 2], [3, 3], [2, 2, 1, 1], [1, 1, 3, 3, 2, 2, 1, 4], [3, 3, 1, 1]):
            self.assert_steps(1, steps, 0)
        self.assert_steps(0, [1, 1], 0)
        self.assert_steps(16, [1, 1], 0)

    def test_rule_for_another_player(self):
        self.assert_steps(1, [2, 1], 0)
        self.assert_steps(1, [0, 1], 0)
        self.assert_steps(3, [1, 2], 0)
        self.assert_steps(1, [1, 1, 1, 2], 0)

    def test_rule_or_player_that_is_not_there(self):
        for steps in ([2, 5], [2, 20], [5, 1], [7, 1], [7, 20], [1, 1, 5, 2], [1, 1, 2, 5]):
            self.assert_steps(1, steps, 0)

    def test_no_rules(self):
        self.assertEqual(ask_in(FIVE, check_steps(1, [1, 1]), check_steps(1, [])), [[0, 0], [0, 1]])

    def test_players_who_act_already(self):
        # The document asks for an enabled rule alone.
        self.assert_steps(3, [1, 1], 1)
        self.assert_steps(1, [1, 1, 1, 1, 2, 4, 2, 2], 1)

    def test_one_fault_anywhere(self):
        good = [1, 1, 2, 2, 3, 3]
        for place in range(3):
            self.assert_steps(1, good[:2 * place] + [4, 1] + good[2 * place:], 0)

    def test_forty_numbers(self):
        self.assert_steps(1, [1, 1] * 20, 1)
        self.assert_steps(1, [1, 1] * 19 + [2, 1], 0)

    def test_eight_players(self):
        text = EIGHT + "keep h by g\n"
        self.assertEqual(ask_in(text, check_steps(64, [7, 1]), check_steps(128, [7, 1])), [[0, 1], [0, 0]])


class Closed(unittest.TestCase):
    def test_without_rules_all_are(self):
        self.assertEqual(flags("player a weight 1", closed, 1), [1, 1])
        self.assertEqual(flags(EIGHT, closed, 8), [1] * 256)

    def test_with_rules(self):
        text = "player a weight 1\nplayer b weight 1\nplayer c weight 1\nkeep c by a b\nkeep a by c\n"
        self.assertEqual(flags(text, closed, 3), [1, 1, 1, 0, 0, 1, 0, 1])

    def test_against_the_definition(self):
        for count, rules in plain_room.sample_rooms():
            text = plain_room.room_text(count, rules)
            expected = [plain_room.is_closed(rules, plain_room.members(group)) for group in range(2 ** count)]
            self.assertEqual(flags(text, closed, count), [int(flag) for flag in expected], text)


class SufficientAndBlocking(unittest.TestCase):
    def test_one_player(self):
        text = "player a weight 1"
        self.assertEqual(flags(text, sufficient, 1), [0, 1])
        self.assertEqual(flags(text, blocking, 1), [0, 1])
        self.assertEqual(ask_in(text, minimal_sufficient(), minimal_blocking()), [[0, 1, 1], [0, 1, 1]])

    def test_without_rules(self):
        self.assertEqual(flags(EIGHT, sufficient, 8), [0] * 255 + [1])
        self.assertEqual(flags(EIGHT, blocking, 8), [0] + [1] * 255)
        self.assertEqual(ask_in(EIGHT, minimal_sufficient())[0], [0, 1, 255])
        self.assertEqual(ask_in(EIGHT, minimal_blocking())[0], [0, 8, 1, 2, 4, 8, 16, 32, 64, 128])

    def test_any_two_of_three(self):
        text = "player a weight 1\nplayer b weight 1\nplayer c weight 1\nkeep a by b c\nkeep b by a c\nkeep c by a b\n"
        self.assertEqual(flags(text, sufficient, 3), [0, 0, 0, 1, 0, 1, 1, 1])
        self.assertEqual(flags(text, blocking, 3), [0, 0, 0, 1, 0, 1, 1, 1])
        self.assertEqual(ask_in(text, minimal_sufficient(), minimal_blocking()), [[0, 3, 3, 5, 6], [0, 3, 3, 5, 6]])

    def test_through_further_players(self):
        text = FIVE + "keep b by a\nkeep c by b\nkeep d by c\nkeep e by any 2 of b c d\n"
        self.assertEqual(ask_in(text, sufficient(1), sufficient(30)), [[0, 1], [0, 0]])
        self.assertEqual(ask_in(text, blocking(1), blocking(30)), [[0, 1], [0, 0]])
        self.assertEqual(ask_in(text, minimal_sufficient(), minimal_blocking()), [[0, 1, 1], [0, 1, 1]])

    def test_minimal_ones_of_several_sizes(self):
        text = "player a weight 1\nplayer b weight 1\nplayer c weight 1\nplayer d weight 1\n"
        text += "keep b by a\nkeep c by a\nkeep d by a\nkeep a by b c\nkeep a by b d\n"
        self.assertEqual(ask_in(text, minimal_sufficient())[0], [0, 3, 1, 6, 10])
        self.assertEqual(ask_in(text, minimal_blocking())[0], [0, 2, 3, 13])

    def test_against_the_definitions(self):
        for count, rules in plain_room.sample_rooms():
            text = plain_room.room_text(count, rules)
            enough = plain_room.sufficient(count, rules)
            block = plain_room.blocking(count, rules)
            groups = [plain_room.members(coalition) for coalition in range(2 ** count)]
            self.assertEqual(flags(text, sufficient, count), [int(group in enough) for group in groups], text)
            self.assertEqual(flags(text, blocking, count), [int(group in block) for group in groups], text)
            minimal = [plain_room.minimal(enough), plain_room.minimal(block)]
            expected = [[0, len(coalitions)] + coalitions for coalitions in minimal]
            self.assertEqual(ask_in(text, minimal_sufficient(), minimal_blocking()), expected, text)

    def test_sufficient_means_meeting_every_blocking_coalition(self):
        for count, rules in plain_room.sample_rooms():
            text = plain_room.room_text(count, rules)
            enough = flags(text, sufficient, count)
            block = flags(text, blocking, count)
            blockers = [coalition for coalition in range(2 ** count) if block[coalition]]
            for coalition in range(2 ** count):
                meets = all(coalition & other for other in blockers)
                self.assertEqual(enough[coalition], int(meets), (text, coalition))

    def test_adding_players_preserves_both(self):
        for count, rules in plain_room.sample_rooms():
            text = plain_room.room_text(count, rules)
            for call in (sufficient, blocking):
                found = flags(text, call, count)
                for coalition in range(2 ** count):
                    for player in range(count):
                        self.assertLessEqual(found[coalition], found[coalition | 2 ** player], (text, coalition))


if __name__ == "__main__":
    unittest.main()

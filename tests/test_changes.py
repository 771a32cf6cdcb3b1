import random
import unittest

import plain_room
from asking import acting, ask, ask_behind, ask_in, check, check_steps, cheapest, codes, continuation, counts
from asking import index, load, load_row, minimal_blocking, minimal_sufficient, packed, print_room, printed
from asking import remove_rule, returns, set_weight, sufficient, summary, swings

PLAYERS = "player a weight 6\nplayer b weight 4\nplayer c weight 3\n"
ROOM = PLAYERS + "keep c by a b\nkeep b by a\nkeep c by b\nkeep a by any 1 of b c\n"


class RemoveRule(unittest.TestCase):
    def test_answers_how_many_are_left(self):
        found = ask_in(ROOM, remove_rule(2), remove_rule(3), remove_rule(1), remove_rule(1), remove_rule(1))
        self.assertEqual(found, [[0, 3], [0, 2], [0, 1], [0, 0], [-4]])

    def test_print_room(self):
        self.assertEqual(printed(ROOM, remove_rule(1)), PLAYERS + (
            "keep b by a\nkeep c by b\nkeep a by any 1 of b c\n"
        ))
        self.assertEqual(printed(ROOM, remove_rule(4)), PLAYERS + "keep c by a b\nkeep b by a\nkeep c by b\n")
        self.assertEqual(printed(ROOM, remove_rule(2), remove_rule(2)), PLAYERS + (
            "keep c by a b\nkeep a by any 1 of b c\n"
        ))
        self.assertEqual(printed(ROOM, *[remove_rule(1)] * 4), PLAYERS)

    def test_steps_tell_the_new_numbers(self):
        calls = [acting(1), acting(2), remove_rule(1), acting(1), acting(2), remove_rule(1), acting(1), acting(2)]
        self.assertEqual(ask_in(ROOM, *calls), [
            [0, 7, 2, 1, 2, 2, 1], [0, 7, 2, 0, 4, 2, 3], [0, 3],
            [0, 7, 2, 1, 1, 2, 2], [0, 7, 2, 0, 3, 2, 2], [0, 2],
            [0, 1, 0], [0, 7, 2, 0, 2, 2, 1],
        ])

    def test_check_steps_takes_the_new_numbers(self):
        calls = [check_steps(1, [1, 2]), check_steps(1, [1, 1]), check_steps(4, [0, 4]), check_steps(4, [0, 3])]
        found = ask_in(ROOM, *calls, remove_rule(1), *calls)
        self.assertEqual(found, [[0, 1], [0, 0], [0, 1], [0, 0], [0, 3], [0, 0], [0, 1], [0, 0], [0, 1]])

    def test_earlier_rules_keep_their_numbers(self):
        calls = [acting(1), check_steps(1, [1, 2, 2, 1]), remove_rule(3), acting(1), check_steps(1, [1, 2, 2, 1])]
        self.assertEqual(ask_in(ROOM, *calls), [
            [0, 7, 2, 1, 2, 2, 1], [0, 1], [0, 3], [0, 7, 2, 1, 2, 2, 1], [0, 1],
        ])

    def test_who_suffices(self):
        calls = [minimal_sufficient(), minimal_blocking(), cheapest(), counts(), index(2)]
        found = ask_in(ROOM, *calls, remove_rule(4), *calls)
        self.assertEqual(found[:5], [[0, 3, 1, 2, 4], [0, 1, 7], [0, 3, 4], [0, 4, 0, 3, 3, 1], [0, 1, 3]])
        self.assertEqual(found[5:], [[0, 3], [0, 1, 1], [0, 1, 1], [0, 6, 1], [0, 4, 0, 1, 2, 1], [0, 0, 1]])

    def test_one_of_twenty(self):
        text = PLAYERS + "keep b by c\n" * 19 + "keep b by a\n"
        calls = [acting(1), remove_rule(7), acting(1), remove_rule(19), acting(1), remove_rule(20), summary()]
        self.assertEqual(ask_in(text, *calls), [
            [0, 3, 1, 1, 20], [0, 19], [0, 3, 1, 1, 19], [0, 18], [0, 1, 0], [-4], [0, 3, 18, 13],
        ])

    def test_against_a_room_loaded_without_the_rule(self):
        for count, rules, rule, left in plain_room.changed_rooms():
            before = plain_room.room_text(count, rules)
            after = plain_room.room_text(count, left)
            calls = [minimal_sufficient(), minimal_blocking(), cheapest(), counts(), summary(), continuation(2, 5)]
            calls += [swings(player) for player in range(count)] + [index(player) for player in range(count)]
            calls += [returns(coalition) for coalition in range(2 ** count)]
            calls += [acting(coalition) for coalition in range(2 ** count)]
            self.assertEqual(ask_behind(before, [remove_rule(rule)], calls), ask_behind(after, [], calls))
            self.assertEqual(printed(before, remove_rule(rule)), printed(after))


class SetWeight(unittest.TestCase):
    def test_print_room(self):
        rules = ROOM[len(PLAYERS):]
        self.assertEqual(printed(ROOM, set_weight(0, 0)), (
            "player a weight 0\nplayer b weight 4\nplayer c weight 3\n" + rules
        ))
        self.assertEqual(printed(ROOM, set_weight(2, 1000), set_weight(1, 7), set_weight(2, 999)), (
            "player a weight 6\nplayer b weight 7\nplayer c weight 999\n" + rules
        ))

    def test_both_changes(self):
        text = printed(ROOM, remove_rule(3), set_weight(1, 10), remove_rule(1))
        self.assertEqual(text, (
            "player a weight 6\nplayer b weight 10\nplayer c weight 3\nkeep b by a\nkeep a by any 1 of b c\n"
        ))
        self.assertEqual(printed(text), text)


REFUSED = (
    load(""), load("player a weight 1\nplayer a weight 2\n"), load(ROOM + "x"), load_row([256]),
    load_row(codes(ROOM) + [32] * 2000), check("x"), check(""), check("player z weight 1\n"),
    acting(8), acting(256), check_steps(8, []), check_steps(1, [1]), sufficient(-1),
    packed([8, 1]), packed([1]), packed([256, 1]), packed([-1, 1]), returns(8), returns(256),
    swings(3), swings(8), index(3), index(-1), continuation(1, 0), continuation(2, 1),
    remove_rule(0), remove_rule(-1), remove_rule(21), remove_rule(20), remove_rule(4),
    set_weight(3, 1), set_weight(7, 1), set_weight(8, 1), set_weight(-1, 1),
    set_weight(0, -1), set_weight(0, 1001), set_weight(2, 10 ** 18),
)
ASKING = (
    check(ROOM), print_room(), acting(2), check_steps(2, [0, 3]), sufficient(2), minimal_sufficient(),
    minimal_blocking(), cheapest(), packed([1, 2]), returns(4), swings(0), index(1), continuation(1, 3),
    counts(), summary(),
)


class NothingChanges(unittest.TestCase):
    CHANGES = (remove_rule(1), set_weight(1, 9))

    def assert_unchanged_behind(self, call):
        asked = [print_room(), summary(), acting(1)]
        before = ask_behind(ROOM, self.CHANGES, asked)
        self.assertEqual(ask_behind(ROOM, self.CHANGES, [call] + asked)[1:], before, call)

    def test_refused_calls(self):
        for call in REFUSED:
            self.assert_unchanged_behind(call)

    def test_calls_that_only_ask(self):
        for call in ASKING:
            self.assert_unchanged_behind(call)

    def test_the_refused_calls_are_refused(self):
        for call in REFUSED:
            answer = ask_behind(ROOM, self.CHANGES, [call])[0]
            self.assertTrue(answer[0] < 0 and len(answer) == 1 or call[0] == 1, (call, answer))

    def test_a_load_that_fails_behind_the_changes(self):
        kept = "player a weight 6\nplayer b weight 9\nplayer c weight 3\nkeep b by a\nkeep c by b\n"
        kept += "keep a by any 1 of b c\n"
        for failing in (load(""), load("player x weight 1\nplayer x weight 1"), load_row([-1])):
            found = ask_in(ROOM, *self.CHANGES, failing, print_room(), summary(), acting(1))
            self.assertEqual(found[3:], [[0, len(kept)] + codes(kept), [0, 3, 3, 18], [0, 7, 2, 1, 1, 2, 2]])

    def test_calls_without_a_room_make_none(self):
        for call in (remove_rule(1), set_weight(0, 1), summary(), cheapest()):
            self.assertEqual(ask(call, print_room()), [[-2], [-2]])


class LoadAgain(unittest.TestCase):
    def test_the_changes_are_gone(self):
        found = ask_in(ROOM, remove_rule(1), set_weight(1, 9), load(ROOM), print_room(), summary(), acting(1))
        self.assertEqual(found[2:], [
            [0, 3, 4], [0, len(ROOM)] + codes(ROOM), [0, 3, 4, 13], [0, 7, 2, 1, 2, 2, 1],
        ])

    def test_the_canonical_text_behind_changes_loads_the_same_room(self):
        source = random.Random(23)
        for count, rules, rule, left in plain_room.changed_rooms():
            weights = plain_room.sample_weights(source, count)
            changes = [remove_rule(rule)] + [set_weight(player, weight) for player, weight in enumerate(weights)]
            text = printed(plain_room.room_text(count, rules), *changes)
            self.assertEqual(text, printed(plain_room.room_text(count, left, weights)))
            calls = [summary(), cheapest(), minimal_sufficient(), minimal_blocking(), counts()]
            before = ask_behind(plain_room.room_text(count, rules), changes, calls)
            self.assertEqual(ask_in(text, *calls), before)


if __name__ == "__main__":
    unittest.main()

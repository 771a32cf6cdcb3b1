import unittest

from asking import acting, ask, ask_in, blocking, cheapest, check, check_row, check_steps, closed, codes
from asking import continuation, counts, index, load, load_row, minimal_blocking, minimal_sufficient, packed
from asking import print_room, printed, remove_rule, returns, set_weight, sufficient, summary, swings
from standins.arguments import read_calls
from standins.rooms import answers

ROOM = "player a weight 3\nplayer b weight 2\nkeep a by b\n"
OTHER = "player x weight 0\n"
HUGE = 10 ** 18
ROOM_CALLS = (
    print_room(), acting(1), check_steps(1, []), closed(1), sufficient(1), blocking(1),
    minimal_sufficient(), minimal_blocking(), cheapest(), packed([2, 1]), returns(1), swings(1), index(1),
    continuation(1, 2), counts(), remove_rule(1), set_weight(1, 5), summary(),
)


def padded(text, length):
    return codes(text) + [32] * (length - len(text))


class LoadRoom(unittest.TestCase):
    def test_counts(self):
        self.assertEqual(ask(load(ROOM), load(OTHER)), [[0, 2, 1], [0, 1, 0]])

    def test_replaces_the_room(self):
        found = ask(load(ROOM), load(OTHER), print_room(), sufficient(2))
        self.assertEqual(found[2], [0, len(OTHER)] + codes(OTHER))
        self.assertEqual(found[3], [-4])

    def test_invalid_text_changes_nothing(self):
        found = ask(load(ROOM), load(OTHER + "player x weight 1\n"), print_room())
        self.assertEqual(found, [[0, 2, 1], [-3], [0, len(ROOM)] + codes(ROOM)])

    def test_text_out_of_range_changes_nothing(self):
        found = ask(load(ROOM), load_row(codes(OTHER) + [256]), print_room())
        self.assertEqual(found, [[0, 2, 1], [-1], [0, len(ROOM)] + codes(ROOM)])

    def test_invalid_text_makes_no_room(self):
        self.assertEqual(ask(load(OTHER + "x"), print_room()), [[-3], [-2]])


class CheckRoom(unittest.TestCase):
    def test_without_a_room(self):
        self.assertEqual(ask(check(ROOM), check(OTHER), check("x")), [[0, 0, 2, 1], [0, 0, 1, 0], [0, 1, 1, 0]])

    def test_makes_no_room(self):
        self.assertEqual(ask(check(ROOM), print_room()), [[0, 0, 2, 1], [-2]])

    def test_changes_nothing(self):
        found = ask(load(ROOM), check(OTHER), print_room(), check("x"), print_room())
        self.assertEqual(found[2], [0, len(ROOM)] + codes(ROOM))
        self.assertEqual(found[4], found[2])


class PrintRoom(unittest.TestCase):
    def test_spaces_and_lines(self):
        text = "\n  player   a  weight 0 \n\nplayer b2 weight   1000\n   \n keep  a  by   b2"
        self.assertEqual(printed(text), "player a weight 0\nplayer b2 weight 1000\nkeep a by b2\n")

    def test_players_ahead_of_rules(self):
        text = "player b weight 1\nplayer a weight 2\nkeep a by b\nplayer c weight 3\nkeep b by c\nkeep a by c\n"
        self.assertEqual(printed(text), (
            "player b weight 1\nplayer a weight 2\nplayer c weight 3\nkeep a by b\nkeep b by c\nkeep a by c\n"
        ))

    def test_any_only_where_fewer_are_required(self):
        players = "player a weight 1\nplayer b weight 1\nplayer c weight 1\nplayer d weight 1\n"
        for line, shown in (
            ("keep a by any 1 of b", "keep a by b"),
            ("keep a by any 2 of c b", "keep a by c b"),
            ("keep a by any 3 of d c b", "keep a by d c b"),
            ("keep a by any 1 of d b", "keep a by any 1 of d b"),
            ("keep a by any 2 of d c b", "keep a by any 2 of d c b"),
            ("keep a by c b d", "keep a by c b d"),
        ):
            self.assertEqual(printed(players + line), players + shown + "\n")

    def test_canonical_text_is_its_own(self):
        text = "player a weight 1\nplayer b weight 1\nplayer c weight 1\nkeep c by any 1 of b a\nkeep a by c b\n"
        self.assertEqual(printed(text), text)

    def test_many_of_everything(self):
        text = "".join(f"player {sign * 12} weight 1000\n" for sign in "abcdefgh")
        text += "keep bbbbbbbbbbbb by any 1 of aaaaaaaaaaaa cccccccccccc\n" * 20
        self.assertEqual(printed(text), text)


class OutOfRange(unittest.TestCase):
    def assert_answers(self, calls, expected):
        """The same answer with a room, and without one."""
        for call in calls:
            self.assertEqual(ask_in(ROOM, call)[0], expected, call)
            self.assertEqual(ask(call)[0], expected, call)

    def test_bytes(self):
        for make in (load_row, check_row):
            for code in (-1, 256, HUGE, -HUGE):
                self.assert_answers([make([code]), make(codes(ROOM) + [code]), make([code] + codes("x"))], [-1])

    def test_length_of_a_text(self):
        self.assert_answers([load_row(padded(OTHER, 2001)), load_row([10] * 2001), load_row([0] * 3000)], [-1])
        self.assert_answers([check_row(padded(OTHER, 2001)), check_row([10] * 2001), check_row([0] * 3000)], [-1])
        self.assert_answers([load_row(padded(OTHER, 2000))], [0, 1, 0])
        self.assert_answers([check_row(padded(OTHER, 2000))], [0, 0, 1, 0])
        self.assert_answers([check_row([10] * 2000)], [0, 1, 9, 2000])

    def test_coalitions(self):
        for coalition in (-1, 256, 257, HUGE, -HUGE):
            self.assert_answers([acting(coalition), closed(coalition), sufficient(coalition)], [-1])
            self.assert_answers([blocking(coalition), check_steps(coalition, [])], [-1])

    def test_coalitions_of_minimal_returns(self):
        for coalition in (-1, 256, 1000000, HUGE, -HUGE):
            self.assert_answers([returns(coalition)], [-1])

    def test_players(self):
        for player in (-1, 8, 9, 255, HUGE, -HUGE):
            self.assert_answers([swings(player), index(player), set_weight(player, 1)], [-1])

    def test_weights(self):
        for weight in (-1, 1001, 9999, HUGE, -HUGE):
            self.assert_answers([set_weight(0, weight), set_weight(1, weight)], [-1])

    def test_rules(self):
        for rule in (-1, 0, 21, HUGE, -HUGE):
            self.assert_answers([remove_rule(rule)], [-1])

    def test_chances(self):
        for b in (-1, 0, 101, HUGE, -HUGE):
            self.assert_answers([continuation(0, b), continuation(b, b), continuation(1, b)], [-1])
        for a, b in ((-1, 1), (-1, 100), (2, 1), (51, 50), (100, 99), (101, 100), (HUGE, 100), (-HUGE, 100)):
            self.assert_answers([continuation(a, b)], [-1])

    def test_ends_of_the_chances(self):
        found = ask_in(ROOM, *[continuation(a, b) for a, b in ((0, 1), (1, 1), (0, 100), (100, 100), (99, 99))])
        self.assertEqual(found, [[0, 0, 1], [0, 1, 1], [0, 0, 1], [0, 1, 1], [0, 1, 1]])

    def test_packings(self):
        for packing in ([2], [2, 1, 2], [2, 0] * 20 + [2], [2, 0] * 21, [2] * 41, [2] * 42, [0] * 3000):
            self.assert_answers([packed(packing)], [-1])
        for number in (-1, 1000001, HUGE, -HUGE):
            for packing in ([number, 0], [2, number], [2, 1, number, 0], [2, 1, 2, number], [number, 0, 2, 1]):
                self.assert_answers([packed(packing)], [-1])

    def test_ends_of_the_ranges_of_packings(self):
        self.assertEqual(ask_in(ROOM, packed([2, 0] * 20), packed([2, 0] * 19 + [2, 1])), [[0, 1, 0], [0, 1, 1]])
        self.assertEqual(ask_in(ROOM, packed([2, 1000000]), packed([1000000, 1000000])), [[0, 0], [-4]])

    def test_ahead_of_what_is_not_there(self):
        calls = [packed([4, 1, 2]), packed([256, -1]), packed([256, 1, 2, 1000001]), set_weight(7, 1001)]
        self.assertEqual(ask_in(ROOM, *calls), [[-1]] * 4)

    def test_steps(self):
        for steps in ([0], [0, 1, 0], [0, 1] * 20 + [0], [0, 1] * 21, [0] * 3000):
            self.assert_answers([check_steps(2, steps)], [-1])
        for step in ([-1, 1], [8, 1], [0, 0], [0, 21], [0, -1], [HUGE, 1], [0, HUGE], [-HUGE, 1], [0, -HUGE]):
            for steps in (step, [0, 1] + step, step + [0, 1]):
                self.assert_answers([check_steps(2, steps)], [-1])

    def test_ends_of_the_ranges_of_steps(self):
        self.assertEqual(ask_in(ROOM, check_steps(2, [0, 1] * 20))[0], [0, 1])
        self.assertEqual(ask_in(ROOM, check_steps(2, [7, 1]), check_steps(2, [0, 20])), [[0, 0], [0, 0]])

    def test_ahead_of_a_missing_member(self):
        self.assertEqual(ask_in(ROOM, check_steps(4, [0]), check_steps(4, [0, 21])), [[-1], [-1]])


class NoRoom(unittest.TestCase):
    def test_every_call_that_needs_a_room(self):
        for call in ROOM_CALLS:
            self.assertEqual(ask(call), [[-2]], call)

    def test_ahead_of_a_missing_member(self):
        for coalition in (4, 255):
            calls = [acting(coalition), check_steps(coalition, []), closed(coalition)]
            calls += [sufficient(coalition), blocking(coalition)]
            self.assertEqual(ask(*calls), [[-2]] * 5)


    def test_ahead_of_what_is_not_there(self):
        calls = [packed([4, 1]), packed([256, 1]), packed([1000000, 1]), returns(255), swings(7), index(7)]
        calls += [remove_rule(20), set_weight(7, 1)]
        self.assertEqual(ask(*calls), [[-2]] * 8)


class MissingMember(unittest.TestCase):
    def test_every_call_with_a_coalition(self):
        for coalition in (4, 5, 7, 8, 128, 255):
            calls = [acting(coalition), check_steps(coalition, [0, 1]), closed(coalition)]
            calls += [sufficient(coalition), blocking(coalition), returns(coalition)]
            self.assertEqual(ask_in(ROOM, *calls), [[-4]] * 6)

    def test_coalitions_of_a_packing(self):
        for coalition in (4, 5, 255, 256, 257, 258, 1000, 1000000):
            for packing in ([coalition, 1], [coalition, 0], [coalition, 1, 2, 1], [2, 1, coalition, 1],
                            [2, 1, coalition, 0, 2, 1], [2, 0] * 19 + [coalition, 0]):
                self.assertEqual(ask_in(ROOM, packed(packing))[0], [-4], packing)

    def test_ahead_of_a_packing_that_does_not_hold(self):
        self.assertEqual(ask_in(ROOM, packed([1, 1, 4, 1]), packed([2, 9, 256, 1])), [[-4], [-4]])

    def test_coalitions_above_255_in_a_room_of_eight(self):
        eight = "".join(f"player {name} weight 1\n" for name in "abcdefgh")
        calls = [packed([255, 1]), packed([256, 1]), packed([257, 1]), packed([255, 0, 511, 0])]
        self.assertEqual(ask_in(eight, *calls), [[0, 1, 1], [-4], [-4], [-4]])

    def test_all_players_are_there(self):
        self.assertEqual(ask_in(ROOM, acting(3), check_steps(3, []), sufficient(3)), [[0, 3, 0], [0, 1], [0, 1]])
        eight = "".join(f"player {name} weight 1\n" for name in "abcdefgh")
        self.assertEqual(ask_in(eight, acting(255), check_steps(255, []), closed(255)), [[0, 255, 0], [0, 1], [0, 1]])

    def test_each_number_of_players(self):
        for count in range(1, 8):
            text = "".join(f"player {name} weight 1\n" for name in "abcdefgh"[:count])
            self.assertEqual(ask_in(text, sufficient(2 ** count - 1), sufficient(2 ** count)), [[0, 1], [-4]])


class MissingPlayerOrRule(unittest.TestCase):
    def test_players(self):
        for count in range(1, 9):
            text = "".join(f"player {name} weight 1\n" for name in "abcdefgh"[:count])
            for player in range(8):
                refused = [answer == [-4] for answer in ask_in(
                    text, swings(player), index(player), set_weight(player, 1),
                )]
                self.assertEqual(refused, [player >= count] * 3, (count, player))

    def test_rules(self):
        for count in range(21):
            text = "player a weight 1\nplayer b weight 1\n" + "keep a by b\n" * count
            for rule in range(1, 21):
                expected = [0, count - 1] if rule <= count else [-4]
                self.assertEqual(ask_in(text, remove_rule(rule))[0], expected, (count, rule))


class ListsOfCalls(unittest.TestCase):
    def test_refused_calls_hold_up_no_others(self):
        refused = [sufficient(256), load("x"), sufficient(4), check_steps(2, [0])]
        found = ask(sufficient(2), load(ROOM), *refused, sufficient(2))
        self.assertEqual(found, [[-2], [0, 2, 1], [-1], [-3], [-4], [-1], [0, 1]])

    def test_rows_that_are_empty_or_look_like_calls(self):
        found = ask(load(""), check(""), load_row([0, 1, 2, 3]), load(ROOM), check_steps(2, []), check_steps(2, [4, 4]))
        self.assertEqual(found, [[-3], [0, 1, 9, 0], [-3], [0, 2, 1], [0, 1], [0, 0]])

    def test_a_hundred_calls(self):
        found = ask(load(ROOM), *[sufficient(1), sufficient(2), sufficient(3)] * 33)
        self.assertEqual(found, [[0, 2, 1]] + [[0, 0], [0, 1], [0, 1]] * 33)

    def test_a_hundred_of_all_calls(self):
        calls = [load(ROOM)] + list(ROOM_CALLS)
        found = ask(*(calls * 6)[:99], summary())
        self.assertEqual(len(found), 100)
        self.assertEqual(found[:95], found[:len(calls)] * 5)
        self.assertEqual(found[95:], found[:4] + [[0, 2, 1, 5]])

    def test_several_rooms_in_one_list(self):
        calls = [summary(), counts(), cheapest(), packed([1, 1]), index(0), index(1)]
        found = ask(*calls, load(ROOM), *calls, load(OTHER), *calls, load(ROOM), *calls)
        in_room = [[0, 2, 1], [0, 2, 1, 5], [0, 3, 0, 1, 1], [0, 2, 2], [0, 0], [0, 0, 1], [0, 1, 1]]
        in_other = [[0, 1, 0], [0, 1, 0, 0], [0, 2, 0, 1], [0, 0, 1], [0, 0], [0, 1, 1], [-4]]
        self.assertEqual(found, [[-2]] * 6 + in_room + in_other + in_room)

    def test_each_list_begins_without_a_room(self):
        for _ in range(2):
            self.assertEqual(ask(print_room(), load(ROOM)), [[-2], [0, 2, 1]])
            self.assertEqual(ask(summary(), load(ROOM), remove_rule(1), set_weight(0, 9), summary()), [
                [-2], [0, 2, 1], [0, 0], [0], [0, 2, 0, 11],
            ])

    def test_the_same_list_twice(self):
        calls = load(ROOM) + acting(2) + minimal_sufficient()
        self.assertEqual(answers(calls), answers(calls))

    def test_the_list_handed_in_stays_the_same(self):
        calls = load(ROOM) + load("x") + check_steps(2, [0, 1]) + print_room() + load_row([300]) + acting(2)
        for call in ROOM_CALLS:
            calls = calls + call
        before = list(calls)
        answers(calls)
        self.assertEqual(calls, before)

    def test_whole_numbers_alone_are_answered(self):
        calls = load(ROOM) + check(ROOM) + check("x") + check_steps(2, [0, 1])
        for call in ROOM_CALLS:
            calls = calls + call
        found = answers(calls)
        self.assertIs(type(found), list)
        self.assertEqual({type(number) for number in found}, {int})


class FormsOfCalls(unittest.TestCase):
    FORMS = (
        (0, [], [5, 6]), (1, [], [7]), (2, [], []), (3, [11], []), (4, [12], [1, 1, 1]), (5, [13], []),
        (6, [14], []), (7, [15], []), (8, [], []), (9, [], []), (10, [], []), (11, [], [2, 2]),
        (12, [16], []), (13, [17], []), (14, [18], []), (15, [19, 20], []), (16, [], []), (17, [21], []),
        (18, [22, 23], []), (19, [], []),
    )

    def written(self, number, numbers, row):
        counted = [len(row)] + row if number in (0, 1, 4, 11) else []
        return [number] + numbers + counted

    def test_every_form_is_read(self):
        handed = [number for form in self.FORMS for number in self.written(*form)]
        found = [(call.number, call.numbers, call.row) for call in read_calls(handed)]
        self.assertEqual(found, list(self.FORMS))


if __name__ == "__main__":
    unittest.main()

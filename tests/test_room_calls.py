import unittest

from asking import acting, ask, ask_in, blocking, check, check_row, check_steps, closed, codes, load, load_row
from asking import minimal_blocking, minimal_sufficient, print_room, printed, sufficient
from standins.arguments import read_calls
from standins.rooms import answers

ROOM = "player a weight 3\nplayer b weight 2\nkeep a by b\n"
OTHER = "player x weight 0\n"
HUGE = 10 ** 18
ROOM_CALLS = (
    print_room(), acting(1), check_steps(1, []), closed(1), sufficient(1), blocking(1),
    minimal_sufficient(), minimal_blocking(),
)


def padded(text, length):
    return codes(text) + [32] * (length - len(text))


class LoadRoom(unittest.TestCase):
    def test_counts(self):
        self.assertEqual(ask(load(ROOM), load(OTHER)), [[0, 2, 1], [0, 1, 0]])

    def test_replaces_the_room(self):
        found = ask(load(ROOM), load(OTHER), print_room(), sufficient(2))
        self.assertEqual(found[2], [0, len(OTHER)] + codes(OTHER))
        self.assertEqual(found[3], [-4])

    def test_invalid_text_changes_nothing(self):
        found = ask(load(ROOM), load(OTHER + "player x weight 1\n"), print_room())
        self.assertEqual(found, [[0, 2, 1], [-3], [0, len(ROOM)] + codes(ROOM)])

    def test_text_out_of_range_changes_nothing(self):
        found = ask(load(ROOM), load_row(codes(OTHER) + [256]), print_room())
        self.assertEqual(found, [[0, 2, 1], [-1], [0, len(ROOM)] + codes(ROOM)])

    def test_invalid_text_makes_no_room(self):
        self.assertEqual(ask(load(OTHER + "x"), print_room()), [[-3], [-2]])


class CheckRoom(unittest.TestCase):
    def test_without_a_room(self):
        self.assertEqual(ask(check(ROOM), check(OTHER), check("x")), [[0, 0, 2, 1], [0, 0, 1, 0], [0, 1, 1, 0]])

    def test_makes_no_room(self):
        self.assertEqual(ask(check(ROOM), print_room()), [[0, 0, 2, 1], [-2]])

    def test_changes_nothing(self):
        found = ask(load(ROOM), check(OTHER), print_room(), check("x"), print_room())
        self.assertEqual(found[2], [0, len(ROOM)] + codes(ROOM))
        self.assertEqual(found[4], found[2])


class PrintRoom(unittest.TestCase):
    def test_spaces_and_lines(self):
        text = "\n  player   a  weight 0 \n\nplayer b2 weight   1000\n   \n keep  a  by   b2"
        self.assertEqual(printed(text), "player a weight 0\nplayer b2 weight 1000\nkeep a by b2\n")

    def test_players_ahead_of_rules(self):
        text = "player b weight 1\nplayer a weight 2\nkeep a by b\nplayer c weight 3\nkeep b by c\nkeep a by c\n"
        self.assertEqual(printed(text), (
            "player b weight 1\nplayer a weight 2\nplayer c weight 3\nkeep a by b\nkeep b by c\nkeep a by c\n"
        ))

    def test_any_only_where_fewer_are_required(self):
        players = "player a weight 1\nplayer b weight 1\nplayer c weight 1\nplayer d weight 1\n"
        for line, shown in (
            ("keep a by any 1 of b", "keep a by b"),
            ("keep a by any 2 of c b", "keep a by c b"),
            ("keep a by any 3 of d c b", "keep a by d c b"),
            ("keep a by any 1 of d b", "keep a by any 1 of d b"),
            ("keep a by any 2 of d c b", "keep a by any 2 of d c b"),
            ("keep a by c b d", "keep a by c b d"),
        ):
            self.assertEqual(printed(players + line), players + shown + "\n")

    def test_canonical_text_is_its_own(self):
        text = "player a weight 1\nplayer b weight 1\nplayer c weight 1\nkeep c by any 1 of b a\nkeep a by c b\n"
        self.assertEqual(printed(text), text)

    def test_many_of_everything(self):
        text = "".join(f"player {sign * 12} weight 1000\n" for sign in "abcdefgh")
        text += "keep bbbbbbbbbbbb by any 1 of aaaaaaaaaaaa cccccccccccc\n" * 20
        self.assertEqual(printed(text), text)


class OutOfRange(unittest.TestCase):
    def assert_answers(self, calls, expected):
        """The same answer with a room, and without one."""
        for call in calls:
            self.assertEqual(ask_in(ROOM, call)[0], expected, call)
            self.assertEqual(ask(call)[0], expected, call)

    def test_bytes(self):
        for make in (load_row, check_row):
            for code in (-1, 256, HUGE, -HUGE):
                self.assert_answers([make([code]), make(codes(ROOM) + [code]), make([code] + codes("x"))], [-1])

    def test_length_of_a_text(self):
        self.assert_answers([load_row(padded(OTHER, 2001)), load_row([10] * 2001), load_row([0] * 3000)], [-1])
        self.assert_answers([check_row(padded(OTHER, 2001)), check_row([10] * 2001), check_row([0] * 3000)], [-1])
        self.assert_answers([load_row(padded(OTHER, 2000))], [0, 1, 0])
        self.assert_answers([check_row(padded(OTHER, 2000))], [0, 0, 1, 0])
        self.assert_answers([check_row([10] * 2000)], [0, 1, 9, 2000])

    def test_coalitions(self):
        for coalition in (-1, 256, 257, HUGE, -HUGE):
            self.assert_answers([acting(coalition), closed(coalition), sufficient(coalition)], [-1])
            self.assert_answers([blocking(coalition), check_steps(coalition, [])], [-1])

    def test_steps(self):
        for steps in ([0], [0, 1, 0], [0, 1] * 20 + [0], [0, 1] * 21, [0] * 3000):
            self.assert_answers([check_steps(2, steps)], [-1])
        for step in ([-1, 1], [8, 1], [0, 0], [0, 21], [0, -1], [HUGE, 1], [0, HUGE], [-HUGE, 1], [0, -HUGE]):
            for steps in (step, [0, 1] + step, step + [0, 1]):
                self.assert_answers([check_steps(2, steps)], [-1])

    def test_ends_of_the_ranges_of_steps(self):
        self.assertEqual(ask_in(ROOM, check_steps(2, [0, 1] * 20))[0], [0, 1])
        self.assertEqual(ask_in(ROOM, check_steps(2, [7, 1]), check_steps(2, [0, 20])), [[0, 0], [0, 0]])

    def test_ahead_of_a_missing_member(self):
        self.assertEqual(ask_in(ROOM, check_steps(4, [0]), check_steps(4, [0, 21])), [[-1], [-1]])


class NoRoom(unittest.TestCase):
    def test_every_call_that_needs_a_room(self):
        for call in ROOM_CALLS:
            self.assertEqual(ask(call), [[-2]], call)

    def test_ahead_of_a_missing_member(self):
        for coalition in (4, 255):
            calls = [acting(coalition), check_steps(coalition, []), closed(coalition)]
            calls += [sufficient(coalition), blocking(coalition)]
            self.assertEqual(ask(*calls), [[-2]] * 5)


class MissingMember(unittest.TestCase):
    def test_every_call_with_a_coalition(self):
        for coalition in (4, 5, 7, 8, 128, 255):
            calls = [acting(coalition), check_steps(coalition, [0, 1]), closed(coalition)]
            calls += [sufficient(coalition), blocking(coalition)]
            self.assertEqual(ask_in(ROOM, *calls), [[-4]] * 5)

    def test_all_players_are_there(self):
        self.assertEqual(ask_in(ROOM, acting(3), check_steps(3, []), sufficient(3)), [[0, 3, 0], [0, 1], [0, 1]])
        eight = "".join(f"player {name} weight 1\n" for name in "abcdefgh")
        self.assertEqual(ask_in(eight, acting(255), check_steps(255, []), closed(255)), [[0, 255, 0], [0, 1], [0, 1]])

    def test_each_number_of_players(self):
        for count in range(1, 8):
            text = "".join(f"player {name} weight 1\n" for name in "abcdefgh"[:count])
            self.assertEqual(ask_in(text, sufficient(2 ** count - 1), sufficient(2 ** count)), [[0, 1], [-4]])


class ListsOfCalls(unittest.TestCase):
    def test_refused_calls_hold_up_no_others(self):
        refused = [sufficient(256), load("x"), sufficient(4), check_steps(2, [0])]
        found = ask(sufficient(2), load(ROOM), *refused, sufficient(2))
        self.assertEqual(found, [[-2], [0, 2, 1], [-1], [-3], [-4], [-1], [0, 1]])

    def test_rows_that_are_empty_or_look_like_calls(self):
        found = ask(load(""), check(""), load_row([0, 1, 2, 3]), load(ROOM), check_steps(2, []), check_steps(2, [4, 4]))
        self.assertEqual(found, [[-3], [0, 1, 9, 0], [-3], [0, 2, 1], [0, 1], [0, 0]])

    def test_a_hundred_calls(self):
        found = ask(load(ROOM), *[sufficient(1), sufficient(2), sufficient(3)] * 33)
        self.assertEqual(found, [[0, 2, 1]] + [[0, 0], [0, 1], [0, 1]] * 33)

    def test_each_list_begins_without_a_room(self):
        for _ in range(2):
            self.assertEqual(ask(print_room(), load(ROOM)), [[-2], [0, 2, 1]])

    def test_the_same_list_twice(self):
        calls = load(ROOM) + acting(2) + minimal_sufficient()
        self.assertEqual(answers(calls), answers(calls))

    def test_the_list_handed_in_stays_the_same(self):
        calls = load(ROOM) + load("x") + check_steps(2, [0, 1]) + print_room() + load_row([300]) + acting(2)
        before = list(calls)
        answers(calls)
        self.assertEqual(calls, before)

    def test_whole_numbers_alone_are_answered(self):
        calls = load(ROOM) + check(ROOM) + check("x") + check_steps(2, [0, 1])
        for call in ROOM_CALLS:
            calls = calls + call
        found = answers(calls)
        self.assertIs(type(found), list)
        self.assertEqual({type(number) for number in found}, {int})


class FormsOfCalls(unittest.TestCase):
    FORMS = (
        (0, [], [5, 6]), (1, [], [7]), (2, [], []), (3, [11], []), (4, [12], [1, 1, 1]), (5, [13], []),
        (6, [14], []), (7, [15], []), (8, [], []), (9, [], []), (10, [], []), (11, [], [2, 2]),
        (12, [16], []), (13, [17], []), (14, [18], []), (15, [19, 20], []), (16, [], []), (17, [21], []),
        (18, [22, 23], []), (19, [], []),
    )

    def written(self, number, numbers, row):
        counted = [len(row)] + row if number in (0, 1, 4, 11) else []
        return [number] + numbers + counted

    def test_every_form_is_read(self):
        handed = [number for form in self.FORMS for number in self.written(*form)]
        found = [(call.number, call.numbers, call.row) for call in read_calls(handed)]
        self.assertEqual(found, list(self.FORMS))

    def test_calls_not_built_yet_are_refused(self):
        for form in self.FORMS[10:]:
            with self.assertRaises(NotImplementedError):
                answers(load(ROOM) + self.written(*form))


if __name__ == "__main__":
    unittest.main()

import unittest

from asking import ask, check, check_row, codes, load

A = "player a weight 1\n"
AB = A + "player b weight 2\n"
ABC = AB + "player c weight 3\n"
EIGHT = "".join(f"player {name} weight 1\n" for name in "abcdefgh")
KEEP = "keep a by b\n"


class RoomTextCase(unittest.TestCase):
    def assert_room(self, text, players, rules):
        self.assertEqual(ask(check(text))[0], [0, 0, players, rules], text)

    def assert_fault(self, text, kind, offset):
        self.assertEqual(ask(check(text))[0], [0, 1, kind, offset], text)

    def assert_fault_at(self, before, rest, kind):
        """The fault is where the second part of the text begins."""
        self.assert_fault(before + rest, kind, len(before))


class Lines(RoomTextCase):
    def test_last_line_with_and_without_its_end(self):
        self.assert_room("player a weight 1", 1, 0)
        self.assert_room("player a weight 1\n", 1, 0)
        self.assert_room(AB + "keep a by b", 2, 1)
        self.assert_room(AB + "keep a by b\n", 2, 1)

    def test_lines_without_tokens(self):
        self.assert_room("\n\n   \n" + A + "\n  \n" + "player b weight 2\n\n\n" + KEEP + "   ", 2, 1)

    def test_offsets_count_lines_without_tokens(self):
        self.assert_fault_at("\n   \n" + A + "\n player ", "a weight 1\n", 4)

    def test_spaces(self):
        self.assert_room("   player   a    weight  1   \n player b weight 2 \n  keep   a  by  any   1 of   b  ", 2, 1)

    def test_offsets_count_spaces(self):
        self.assert_fault_at("  player   a   weight    ", "1001   \n", 3)
        self.assert_fault_at(AB + "   keep  a   by    any  ", "2   of   b   \n", 6)

    def test_other_blanks_separate_nothing(self):
        for sign in "\t\r\v\f\0\xa0\xff\x85":
            self.assert_fault_at("", f"player{sign}a weight 1\n", 1)
            self.assert_fault_at("player a weight ", f"1{sign}\n", 1)
            self.assert_fault_at("", f"{sign}\n" + A, 1)

    def test_rules_may_stand_between_players(self):
        self.assert_room(AB + KEEP + "player c weight 1\nkeep b by c\n", 3, 2)


class NotAllowed(RoomTextCase):
    def test_first_token(self):
        for word in ("players", "Player", "play", "keeps", "KEEP", "a", "7", "by", "#", "player,", "?"):
            self.assert_fault_at(A, f"{word} b weight 1\n", 1)

    def test_missing_tokens_of_a_player(self):
        for line in ("player", "player b", "player b weight"):
            self.assert_fault_at(A + line, "", 1)
            self.assert_fault_at(A + line, "\n" + A, 1)
            self.assert_fault_at(A + line + "   ", "", 1)
            self.assert_fault_at(A + line + "   ", "\n", 1)

    def test_missing_tokens_of_a_rule(self):
        for line in ("keep", "keep a", "keep a by", "keep a by any", "keep a by any 1", "keep a by any 1 of"):
            self.assert_fault_at(AB + line, "", 1)
            self.assert_fault_at(AB + line, "\n", 1)
            self.assert_fault_at(AB + line + "  ", "", 1)
            self.assert_fault_at(AB + line + "  ", "\n" + KEEP, 1)

    def test_wrong_token_at_each_place_of_a_player(self):
        self.assert_fault_at("player ", "weight 1\n", 1)
        self.assert_fault_at("player a ", "1 weight 1\n", 1)
        self.assert_fault_at("player a ", "weigh 1\n", 1)
        self.assert_fault_at("player a ", "b weight 1\n", 1)
        self.assert_fault_at("player a weight ", "x\n", 1)
        self.assert_fault_at("player a weight ", "weight 1\n", 1)

    def test_wrong_token_at_each_place_of_a_rule(self):
        self.assert_fault_at(AB + "keep ", "by b\n", 1)
        self.assert_fault_at(AB + "keep ", "1 by b\n", 1)
        self.assert_fault_at(AB + "keep a ", "b\n", 1)
        self.assert_fault_at(AB + "keep a ", "any 1 of b\n", 1)
        self.assert_fault_at(AB + "keep a by ", "by b\n", 1)
        self.assert_fault_at(AB + "keep a by ", "1 of b\n", 1)
        self.assert_fault_at(AB + "keep a by ", "of b\n", 1)
        self.assert_fault_at(AB + "keep a by any ", "of b\n", 1)
        self.assert_fault_at(AB + "keep a by any ", "b\n", 1)
        self.assert_fault_at(AB + "keep a by any 1 ", "b\n", 1)
        self.assert_fault_at(AB + "keep a by any 1 ", "by b\n", 1)
        self.assert_fault_at(AB + "keep a by any 1 of ", "1\n", 1)
        self.assert_fault_at(AB + "keep a by any 1 of ", "any 1 of b\n", 1)

    def test_wrong_token_behind_a_substitute(self):
        for word in ("any", "by", "of", "weight", "1", "B", "b,"):
            self.assert_fault_at(ABC + "keep a by b ", f"{word} c\n", 1)
            self.assert_fault_at(ABC + "keep a by any 1 of b ", f"{word} c\n", 1)

    def test_token_behind_a_complete_player(self):
        self.assert_fault_at("player a weight 1 ", "1\n", 1)
        self.assert_fault_at("player a weight 1   ", "b weight 2\n", 1)


class Names(RoomTextCase):
    def test_twelve_and_thirteen_signs(self):
        self.assert_room("player abcdefghij12 weight 1\n", 1, 0)
        self.assert_fault_at("player ", "abcdefghij123 weight 1\n", 1)
        long_name = "z" * 12
        self.assert_room(A + f"player {long_name} weight 1\nkeep a by {long_name}\nkeep {long_name} by a\n", 2, 2)
        self.assert_fault_at(A + "keep a by ", "z" * 13 + "\n", 1)
        self.assert_fault_at(A + "keep ", "z" * 13 + " by a\n", 1)

    def test_signs_of_names(self):
        for name in ("a", "z", "a0", "z9", "a1b2", "player", "keep", "bye", "anyof", "weights", "of1"):
            self.assert_room(f"player {name} weight 1\n", 1, 0)
        for name in ("0a", "9", "A", "aB", "a_b", "a-b", "a.", "_a", "`", "{", "a:", "a/", "\xe9", "a\xb2", "a?", "?"):
            self.assert_fault_at("player ", f"{name} weight 1\n", 1)
            self.assert_fault_at(A + "keep a by ", f"{name}\n", 1)

    def test_reserved_words(self):
        for word in ("by", "any", "of", "weight"):
            self.assert_fault_at("player ", f"{word} weight 1\n", 1)
            self.assert_fault_at(AB + "keep ", f"{word} by a\n", 1)
            self.assert_fault_at(AB + "keep a by b ", f"{word}\n", 1)


class Numbers(RoomTextCase):
    def test_weights(self):
        for weight in ("0", "1", "9", "10", "999", "1000"):
            self.assert_room(f"player a weight {weight}\n", 1, 0)
        for weight in ("1001", "2000", "9999"):
            self.assert_fault_at("player a weight ", f"{weight}\n", 3)

    def test_digits_of_a_weight(self):
        for weight in ("10000", "00", "01", "0000", "0999", "01000", "-1", "+1", "1.0", "1a", "a1", "0x1", "\xb2"):
            self.assert_fault_at("player a weight ", f"{weight}\n", 1)

    def test_required_numbers(self):
        self.assert_room(EIGHT + "keep a by any 1 of b\n", 8, 1)
        self.assert_room(EIGHT + "keep a by any 7 of b c d e f g h\n", 8, 1)
        self.assert_fault_at(EIGHT + "keep a by any ", "8 of b c d e f g h\n", 6)
        for number in ("0", "9", "10", "1000", "9999"):
            self.assert_fault_at(EIGHT + "keep a by any ", f"{number} of b c d e f g h\n", 3)

    def test_digits_of_a_required_number(self):
        for number in ("10000", "00", "01", "-1", "1x"):
            self.assert_fault_at(EIGHT + "keep a by any ", f"{number} of b\n", 1)


class Declared(RoomTextCase):
    def test_unknown_names(self):
        self.assert_fault_at(A + "keep ", "b by a\n", 5)
        self.assert_fault_at(A + "keep a by ", "b\n", 5)
        self.assert_fault_at(AB + "keep a by b ", "c\n", 5)
        self.assert_fault_at(AB + "keep a by any 1 of ", "c b\n", 5)
        self.assert_fault_at(A + "keep a by ", "aa\n", 5)

    def test_names_declared_later_are_unknown(self):
        self.assert_fault_at(A + "keep a by ", "b\nplayer b weight 1\n", 5)
        self.assert_fault_at("keep ", "a by b\n" + AB, 5)

    def test_player_declared_twice(self):
        self.assert_fault_at(AB + "player ", "a weight 1\n", 4)
        self.assert_fault_at(AB + "player  ", "b weight 2\n", 4)

    def test_substitute_twice(self):
        self.assert_fault_at(ABC + "keep a by b ", "b\n", 4)
        self.assert_fault_at(ABC + "keep a by b c ", "b\n", 4)
        self.assert_fault_at(ABC + "keep a by any 1 of c b ", "c\n", 4)
        self.assert_room(ABC + "keep a by b\nkeep a by b\nkeep c by b\n", 3, 3)

    def test_absent_player_among_the_substitutes(self):
        self.assert_fault_at(ABC + "keep a by ", "a\n", 10)
        self.assert_fault_at(ABC + "keep a by b ", "a c\n", 10)
        self.assert_fault_at(ABC + "keep c by any 1 of b ", "c\n", 10)

    def test_more_required_than_substitutes(self):
        self.assert_fault_at(ABC + "keep a by any ", "2 of b\n", 6)
        self.assert_fault_at(ABC + "keep a by any ", "3 of b c", 6)
        self.assert_room(ABC + "keep a by any 2 of b c\n", 3, 1)


class Limits(RoomTextCase):
    def test_eight_players_and_a_ninth(self):
        self.assert_room(EIGHT, 8, 0)
        self.assert_fault_at(EIGHT, "player i weight 1\n", 7)
        self.assert_fault_at(EIGHT + "  ", "player i weight 1\n", 7)

    def test_twenty_rules_and_a_twenty_first(self):
        self.assert_room(AB + KEEP * 20, 2, 20)
        self.assert_fault_at(AB + KEEP * 20, KEEP, 7)
        self.assert_fault_at(AB + KEEP * 20 + "   ", KEEP, 7)

    def test_one_limit_says_nothing_of_the_other(self):
        self.assert_room(EIGHT + KEEP * 20, 8, 20)
        self.assert_room(AB + KEEP * 20 + "player c weight 1\n", 3, 20)

    def test_ahead_of_the_rest_of_the_line(self):
        for rest in ("", " a weight 1", " i", " by", " i weight 1001", " i weight 1 1"):
            self.assert_fault_at(EIGHT, f"player{rest}\n", 7)
        for rest in ("", " x by a", " a by a", " a by any 9 of b", " by", " a by b b"):
            self.assert_fault_at(AB + KEEP * 20, f"keep{rest}\n", 7)

    def test_behind_the_first_token(self):
        self.assert_fault_at(EIGHT, "players i weight 1\n", 1)

    def test_no_player(self):
        self.assert_fault("", 9, 0)
        self.assert_fault("\n", 9, 1)
        self.assert_fault("  \n\n   ", 9, 7)

    def test_no_player_only_if_no_line_has_an_error(self):
        self.assert_fault_at("\n", "x\n\n", 1)
        self.assert_fault_at("keep ", "a by b\n", 5)
        self.assert_fault_at("player a weight ", "1001\n", 3)


class FirstError(RoomTextCase):
    def test_earlier_line_first(self):
        self.assert_fault_at(AB + "keep a by any ", "2 of b\nplayer a weight 1\nx\n", 6)
        self.assert_fault_at("player ", "A weight 1\nplayer a weight 1001\n", 1)

    def test_left_token_first(self):
        self.assert_fault_at(A + "player ", "a weigth 1001 x\n", 4)
        self.assert_fault_at("player a ", "weigth 1001\n", 1)
        self.assert_fault_at("player a weight ", "1001 x\n", 3)
        self.assert_fault_at(AB + "keep ", "x to any 9 of a a\n", 5)
        self.assert_fault_at(AB + "keep a by any ", "9 off a\n", 3)
        self.assert_fault_at(AB + "keep a by any ", "0\n", 3)

    def test_kinds_of_a_name(self):
        # A name that isn't a declared player's is told as that, however often it occurs.
        self.assert_fault_at(AB + "keep a by ", "x x\n", 5)
        self.assert_fault_at(AB + "keep ", "x by x\n", 5)
        # The absent player is told at its first occurrence, ahead of its second.
        self.assert_fault_at(AB + "keep a by b ", "a a b\n", 10)
        self.assert_fault_at(AB + "keep a by b ", "b a x\n", 4)
        # What isn't a name at all is told ahead of all that's told of names.
        self.assert_fault_at(AB + "keep a by b ", "B a x\n", 1)

    def test_too_few_substitutes_behind_all_of_them(self):
        self.assert_fault_at(ABC + "keep a by any 8 of b ", "a\n", 10)
        self.assert_fault_at(ABC + "keep a by any 8 of b ", "b\n", 4)
        self.assert_fault_at(ABC + "keep a by any 8 of b ", "x\n", 5)
        self.assert_fault_at(ABC + "keep a by any 8 of b ", "1\n", 1)
        self.assert_fault_at(ABC + "keep a by any 8 of", "\n", 1)


class SameTextToLoad(unittest.TestCase):
    def test_load_room_refuses_what_check_room_finds(self):
        for text in ("", "x", "player", "player a weight 1001", AB + "keep a by any 2 of b", AB + KEEP * 21):
            self.assertEqual(ask(load(text))[0], [-3], text)

    def test_every_single_byte(self):
        for code in range(256):
            fault = [0, 1, 9, 1] if code in (10, 32) else [0, 1, 1, 0]
            self.assertEqual(ask(check_row([code]))[0], fault, code)

    def test_every_byte_within_a_name(self):
        allowed = codes("abcdefghijklmnopqrstuvwxyz0123456789 ")
        for code in range(256):
            found = ask(check_row(codes("player c") + [code] + codes(" weight 1")))[0]
            place = 8 if code == 10 else 7
            self.assertEqual(found, [0, 0, 1, 0] if code in allowed else [0, 1, 1, place], code)


if __name__ == "__main__":
    unittest.main()

import unittest

from asking import acting, ask, check_steps, cheapest, continuation, counts, index, load, minimal_blocking
from asking import minimal_sufficient, packed, returns, summary, swings
from standins.rooms import answers

ROOM = "player a weight 3\nplayer b weight 2\nkeep a by b"


class Examples(unittest.TestCase):
    def test_the_documents_examples_in_one_list(self):
        examples = (
            (summary(), [-2]),
            (load(ROOM), [0, 2, 1]),
            (acting(2), [0, 3, 1, 0, 1]),
            (acting(1), [0, 1, 0]),
            (check_steps(2, [0, 1]), [0, 1]),
            (minimal_sufficient(), [0, 1, 2]),
            (minimal_blocking(), [0, 1, 2]),
            (cheapest(), [0, 2, 2]),
            (packed([2, 2]), [0, 1, 2]),
            (packed([2, 3]), [0, 0]),
            (returns(1), [0, 1, 2]),
            (swings(1), [0, 2]),
            (index(0), [0, 0, 1]),
            (continuation(1, 2), [0, 1, 2]),
            (counts(), [0, 3, 0, 1, 1]),
            (summary(), [0, 2, 1, 5]),
        )
        found = ask(*[call for call, answer in examples])
        self.assertEqual(found, [answer for call, answer in examples])

    def test_the_flat_form_of_calls_and_answers(self):
        text = list(ROOM.encode())
        calls = [2, 0, len(text)] + text + [3, 2, 4, 2, 2, 0, 1, 3, 4, 8]
        self.assertEqual(answers(calls), [1, -2, 3, 0, 2, 1, 5, 0, 3, 1, 0, 1, 2, 0, 1, 1, -4, 3, 0, 1, 2])

    def test_the_flat_form_of_the_later_calls(self):
        text = list(ROOM.encode())
        calls = [0, len(text)] + text + [10, 11, 2, 2, 2, 11, 0, 12, 1, 13, 1, 14, 0, 15, 1, 2, 16, 18, 1, 7, 17, 1, 19]
        self.assertEqual(answers(calls), [
            3, 0, 2, 1, 3, 0, 2, 2, 3, 0, 1, 2, 3, 0, 1, 0, 3, 0, 1, 2, 2, 0, 2, 3, 0, 0, 1, 3, 0, 1, 2,
            5, 0, 3, 0, 1, 1, 1, 0, 2, 0, 0, 4, 0, 2, 0, 10,
        ])


if __name__ == "__main__":
    unittest.main()

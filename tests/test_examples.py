import unittest

from asking import acting, ask, check_steps, load, minimal_blocking, minimal_sufficient
from standins.rooms import answers

ROOM = "player a weight 3\nplayer b weight 2\nkeep a by b"


class Examples(unittest.TestCase):
    def test_the_documents_examples_in_one_list(self):
        found = ask(load(ROOM), acting(2), acting(1), check_steps(2, [0, 1]), minimal_sufficient(), minimal_blocking())
        self.assertEqual(found, [[0, 2, 1], [0, 3, 1, 0, 1], [0, 1, 0], [0, 1], [0, 1, 2], [0, 1, 2]])

    def test_the_flat_form_of_calls_and_answers(self):
        text = list(ROOM.encode())
        calls = [2, 0, len(text)] + text + [3, 2, 4, 2, 2, 0, 1, 3, 4, 8]
        self.assertEqual(answers(calls), [1, -2, 3, 0, 2, 1, 5, 0, 3, 1, 0, 1, 2, 0, 1, 1, -4, 3, 0, 1, 2])


if __name__ == "__main__":
    unittest.main()

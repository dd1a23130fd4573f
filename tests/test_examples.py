"""[85]: the three texts, in the one form."""

import unittest

from worstwait.examples import examples

NET = ("net\n"
       "server hub gives late1 2/1\n"
       "server out gives late1 3/1\n"
       "flow x keeps [0 2] rank 0 through hub out\n"
       "flow y keeps [0;1by1] rank 1 through hub")
BOOKINGS = "bookings\nbook a keeps line1 1/2 within 1\nbook b keeps line2 1/4 within 5"


class Examples(unittest.TestCase):
    def test_texts(self):
        self.assertEqual(examples(), [NET, "timetable 0 2", BOOKINGS])
        self.assertIs(type(examples()), list)

    def test_each_list_is_new(self):
        examples().clear()
        self.assertEqual(len(examples()), 3)


if __name__ == "__main__":
    unittest.main()

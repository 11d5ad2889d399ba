import unittest

from badnet.several import answers

LONG = [
    0, 3, 7, 5, 1, 0, 1, 1, 0, 1, 1, 1, 2, 2, 0, 2, 1, 4, 0, 3, 2, 3, 1, 5, 0, 6, 1,
    1, 0, 5, 1, 9, 0, 2, 8, 3, 99, 4, 99, 5, 99, 6, 3, 0, 5, 0, 0,
    7, 0, 8, 9, 11, 1, 12, 0, 2, 10, 9, 8, 7, 3, 11, 4294967295, 12, 0, 3, 12, 3, 0,
]


class Interface(unittest.TestCase):
    def test_each_call_with_its_count_before_it(self):
        calls = [
            0, 2, 5, 3,
            1, 0, 1,
            1, 1, 2,
            2, 0,
            4, 0,
            3, 0,
            5, 0,
            6, 1,
        ]
        self.assertEqual(answers(calls), [
            8, 0, 0, 0, 2, 2, 0, 4, 1,
            9, 1, 1, 0, 0, 2, 2, 0, 4, 1,
            9, 1, 0, 0, 0, 2, 3, 0, 4, 1,
            4, 1, 1, 0, 1,
            1, 2,
            3, 1, 1, 1,
            1, 0,
            9, 1, 1, 0, 0, 2, 3, 0, 4, 1,
        ])

    def test_each_call_that_asks_with_its_count_before_it(self):
        calls = [
            1, 0, 1,
            1, 0, 2,
            1, 1, 2,
            2, 0,
            8,
            3, 0,
            7, 1,
            12, 0, 2,
            12, 1, 1,
            11, 1,
            9,
            10,
            9,
            11, 0,
            8,
        ]
        self.assertEqual(answers(calls), [
            9, 1, 1, 0, 0, 2, 2, 0, 4, 1,
            9, 2, 1, 1, 0, 2, 2, 0, 4, 1,
            9, 1, 0, 0, 0, 2, 3, 0, 4, 1,
            4, 1, 1, 0, 2,
            6, 1, 0, 1, 0, 2, 0,
            3, 1, 1, 1,
            9, 1, 1, 0, 0, 2, 3, 0, 4, 1,
            9, 0, 1, 1, 0, 2, 2, 0, 4, 1,
            9, 1, 1, 0, 0, 2, 3, 0, 4, 1,
            7, 1, 1, 1, 2, 1, 0, 0,
            3, 0, 733670900, 733670900,
            3, 1, 2, 1,
            3, 1, 625625891, 625625891,
            7, 2, 1, 2, 2, 1, 0, 2,
            1, 0,
        ])

    def test_calls_without_numbers_first_last_and_one_behind_another(self):
        self.assertEqual(answers([8]), [1, 0])
        self.assertEqual(answers([10]), [3, 0, 0, 0])
        self.assertEqual(answers([9, 8, 10, 8]), [3, 0, 733670900, 733670900, 1, 0, 3, 0, 0, 0, 1, 0])
        self.assertEqual(answers([8] * 40), [1, 0] * 40)

    def test_refusals_of_calls_that_ask(self):
        self.assertEqual(answers([7, 2, 11, 2, 12, 2, 0, 12, 0, 1]), [1, -2] * 4)
        self.assertEqual(answers([7, 4294967295, 11, 4294967295, 12, 4294967295, 4294967295, 8]), [1, -2] * 3 + [1, 0])

    def test_a_line_begins_with_two_players_seed_1_and_6_ahead(self):
        self.assertEqual(answers([6, 0]), [9, 0, 0, 0, 0, 2, 2, 0, 4, 1])
        self.assertEqual(answers([6, 2]), [1, -2])
        self.assertEqual(answers([3, 0]), [1, -2])
        seven = answers([1, 0, 0] * 7)
        self.assertEqual(seven[-2:], [1, -6])
        self.assertEqual(seven[-12:-2], [9, 6, 0, 0, 0, 2, 2, 0, 4, 1])
        # Player 0 fetches the coin; where the next one lies tells the seed.
        fetched = answers([1, 0, 1] * 4 + [1, 0, 2])
        self.assertEqual(fetched[-10:], [9, 5, 4, 1, 1, 2, 2, 0, 6, 6])

    def test_a_refusal_is_its_number_alone(self):
        self.assertEqual(answers([0, 0, 0, 0]), [1, -1])
        self.assertEqual(answers([1, 0, 5, 6, 1]), [1, -1, 9, 0, 0, 0, 0, 2, 2, 0, 4, 1])

    def test_numbers_of_a_call_are_not_taken_for_calls(self):
        self.assertEqual(answers([0, 1, 0, 6, 6, 0]), [5, 0, 0, 0, 4, 1, 6, 0, 0, 0, 0, 4, 1])
        self.assertEqual(answers([12, 8, 9, 7, 10, 11, 8, 8]), [1, -2, 1, -2, 1, -2, 1, 0])

    def test_forty_calls(self):
        self.assertEqual(answers([0, 1, 4294967295, 20] * 40), [5, 0, 0, 0, 4, 1] * 40)

    def test_what_is_handed_in_stays(self):
        handed = list(LONG)
        answers(handed)
        self.assertEqual(handed, LONG)

    def test_a_second_time_gives_the_same(self):
        first = answers(list(LONG))
        self.assertEqual(answers([1, 1, 3, 2, 1]), [9, 1, 0, 0, 0, 1, 2, 0, 4, 1, 4, 1, 0, 0, 1])
        self.assertEqual(answers(list(LONG)), first)

    def test_a_new_list_each_time(self):
        first = answers([6, 0])
        first.append(5)
        self.assertEqual(answers([6, 0]), [9, 0, 0, 0, 0, 2, 2, 0, 4, 1])

    def test_whole_numbers_in_a_list(self):
        given = answers(list(LONG))
        self.assertIs(type(given), list)
        self.assertEqual({type(number) for number in given}, {int})


if __name__ == "__main__":
    unittest.main()

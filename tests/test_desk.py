"""The interface: how calls are handed in and how answers are given back."""

import unittest

from musicbox.desk import answers
from tests.helper import (MOST, NO_AMOUNTS, amount, bonus, bonus_bytes, buy, coin, coin_bytes, echo, fade, init, interest,
                          level, line, load, load_frames, mix, owed, parted, pay, price, stop, tell, text)

EVERY_CALL = line(
    init(), load(0, 3, 2, [1, 2, 3, 4, 5, 6, 7, 8]), load(9, 3, 2), price(0, 3, 5000, 7), price(0, 1, 5000, 7), coin(7),
    coin_bytes([0xFF] * 10), buy(0, 0), buy(0, 0), fade(0, 1, 2, 3), fade(1, 1, 2, 3), stop(0), stop(8), echo(5, 6),
    echo(-1, 6), mix(0), mix(1, form=3), pay(3, 4, 1), pay(3, 16, 1), interest(3, 100000, 2), interest(2, 1, 1), bonus(5),
    bonus(5), bonus_bytes(NO_AMOUNTS[0]), tell(16), text(-1), pay(0, 5, MOST - 7), pay(5, 6, MOST), pay(5, 6, 1), owed())
EVERY_ANSWER = [0, 0, -1, 0, -1, 0, -1, 0, -2, 0, -2, 0, -1, 0, -1, 0, -1, 0, -1, 0, -1, 0, -3, -1, -1, -1, 0, 0, -2, -2]
LONG_ANSWERS = line(init(), load_frames(0, [(258, -2)]), buy(0, 7), mix(2), level(), coin(5), tell(0), owed(), text(1))


class UnchangedList(list):
    """A list of which every change fails, also one that is taken back later."""

    def refuse(self, *given):
        raise AssertionError("the list handed in is changed")

    append = extend = insert = pop = remove = clear = sort = reverse = refuse
    __setitem__ = __delitem__ = __iadd__ = __imul__ = refuse


class TestAnswers(unittest.TestCase):
    def test_how_many_numbers_ahead_of_each_answer(self):
        expected = [number for answer in EVERY_ANSWER for number in (1, answer)]
        self.assertEqual(answers(EVERY_CALL), expected)

    def test_how_many_numbers_ahead_of_long_answers(self):
        self.assertEqual(answers(LONG_ANSWERS), line(
            [1, 0], [1, 0], [1, 0], [9, 0, 2, 1, 254, 255, 0, 0, 0, 0],
            [25, 0, 2, 1, 0, 0, 2, 0, 0, 0, 0, 0, 0, 0, 0, 0, 0, 0, 1, 0, 0, 0, 0, 0, 0, 0], [1, 0],
            [11, 0, 5, 0, 0, 0, 0, 0, 0, 0, 0, 128], [11, 0, 5, 0, 0, 0, 0, 0, 0, 0, 0, 0],
            [27, 0] + [32] * 21 + [48, 46, 48, 53, 0]))

    def test_a_refusal_is_its_number_alone(self):
        calls = line(init(), mix(1025), tell(16), text(16), pay(0, 3, MOST), pay(5, 4, 1), owed())
        self.assertEqual(answers(calls), [1, 0, 1, -1, 1, -1, 1, -1, 1, 0, 1, 0, 1, -2])

    def test_init_alone(self):
        self.assertEqual(answers([0]), [1, 0])

    def test_the_numbers_as_they_stand_in_the_document(self):
        calls = [0, 1, 0, 0, 1, 1, 128, 2, 0, 3, 10000, 10, 0x50, 0, 0, 0, 0, 0, 0, 0, 0, 0,
                 3, 10, 0x50, 0, 0, 0, 0, 0, 0, 0, 0, 0, 4, 0, 7, 0, 32767, 65536, 5, 7, 32767, 0, 1, 6, 7, 5, 7, 1, 1, 1,
                 7, 2048, 16384]
        self.assertEqual(answers(calls), [1, 0, 1, 0, 1, 0, 1, 0, 1, 0, 1, 0, 1, 0, 1, -2, 1, 0])
        calls = [0, 8, 1, 2, 0, 0, 2, 77, 78, 9, 10, 2, 3, 10, 0x50, 0, 0, 0, 0, 0, 0, 0, 0, 0, 11, 3, 100000, 1,
                 12, 10, 1, 0, 0, 0, 0, 0, 0, 0, 0, 0, 13, 3, 14, 15, 2]
        self.assertEqual(parted(answers(calls)),
                         [[0], [0, 77, 78], [0] * 25, [0], [0], [-3], [0] + amount(100), [0] + amount(100),
                          [0] + list(b"                    -1.00") + [0]])

    def test_a_list_of_whole_numbers_is_given_back(self):
        for calls in (EVERY_CALL, LONG_ANSWERS):
            given = answers(calls)
            self.assertIs(type(given), list)
            self.assertEqual({type(number) for number in given}, {int})

    def test_what_is_handed_in_stays(self):
        for numbers in (EVERY_CALL, LONG_ANSWERS):
            calls = UnchangedList(numbers)
            answers(calls)
            self.assertEqual(list(calls), numbers)

    def test_what_is_given_back_is_not_what_is_handed_in(self):
        calls = [0]
        self.assertIsNot(answers(calls), calls)

    def test_nothing_is_kept_from_one_time_to_the_next(self):
        first = answers(list(EVERY_CALL))
        answers(line(init(), coin(MOST), load(1, 0, 1), buy(1, 1)))
        self.assertEqual(answers(list(EVERY_CALL)), first)
        self.assertEqual(answers(line(init(), buy(1, 1), fade(1, 1, 1, 1), coin(MOST))), [1, 0, 1, -1, 1, -2, 1, 0])
        first = answers(list(LONG_ANSWERS))
        self.assertEqual(answers(list(LONG_ANSWERS)), first)
        self.assertEqual(parted(answers(line(init(), level(), owed(), mix(1))))[1:], [[0] * 25, [0] * 11, [0] * 5])

    def test_a_list_given_back_may_be_changed(self):
        first = answers([0])
        first.append(5)
        self.assertEqual(answers([0]), [1, 0])

    def test_as_long_as_a_list_may_be(self):
        calls = line(init(), *[load(k % 8, 3, 2048) for k in range(3)], *[load(k % 8, 0, 20) for k in range(196)])
        self.assertLessEqual(len(calls), 30000)
        self.assertEqual(answers(calls), [1, 0] * 200)

    def test_rows_with_numbers_of_calls_in_them_are_passed_over(self):
        calls = line(init(), load(0, 3, 2, [0, 1, 2, 3, 4, 5, 6, 7]), stop(0))
        self.assertEqual(answers(calls), [1, 0, 1, 0, 1, 0])


if __name__ == "__main__":
    unittest.main()

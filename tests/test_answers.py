"""The interface: how calls stand in the list, what is given back, and that nothing is kept or changed."""

import unittest

from filmcuts.tracks import answers
from helper import BEGIN, MOST, between, cut, flat, lift, out, over, roll, slide, slip, source


class Unchanged(list):
    """A list that tells when it's changed, be it for a while."""

    def refuse(self, *given):
        raise AssertionError("what was handed in is changed")

    __setitem__ = __delitem__ = __iadd__ = __imul__ = refuse
    append = extend = insert = pop = remove = clear = sort = reverse = refuse


MANY = [BEGIN, source(0, 100), source(1, 50), over(0, 0, 0, 0, 10), between(0, 5, 1, 0, 5), over(1, 3, 0, 3, 9),
        cut(0, 2), lift(0, 12, 13), out(4, 6), slip(0, 0, 1), roll(0, 2, 1), slide(0, 3, -1), slip(2, 0, 0),
        source(0, 7), over(0, 0, 2, 0, 1), over(0, MOST, 0, 0, 1), cut(8, 0)]
TOLD = [1, 0] * 12 + [1, -61, 1, -17, 1, -2, 1, -28, 1, -22]


class Answers(unittest.TestCase):
    def test_begin_alone(self):
        self.assertEqual(answers([0]), [1, 0])

    def test_calls_by_their_numbers(self):
        calls = [0, 1, 0, 10, 2, 0, 0, 0, 0, 9, 3, 1, 0, 0, 0, 9, 4, 2, 0, 1, 5, 20, 21, 6, 0, 3, 6, 0, 15,
                 7, 0, 9, 0, 8, 0, 16, 0, 9, 0, 16, 0]
        self.assertEqual(answers(calls), [1, 0] * 10 + [1, -61])

    def test_answers_in_order(self):
        self.assertEqual(answers(flat(MANY)), TOLD)

    def test_kinds(self):
        given = answers(flat(MANY))
        self.assertIs(type(given), list)
        self.assertEqual({type(number) for number in given}, {int})

    def test_nothing_is_kept(self):
        self.assertEqual(answers(flat(MANY)), answers(flat(MANY)))
        self.assertEqual(answers([0, 1, 0, 10]), [1, 0, 1, 0])
        self.assertEqual(answers([0, 1, 0, 10]), [1, 0, 1, 0])
        self.assertEqual(answers([0, 7, 0, 0, 0]), [1, 0, 1, -61])

    def test_given_back_list_is_ones_own(self):
        first = answers([0])
        first.append(5)
        self.assertEqual(answers([0]), [1, 0])

    def test_handed_in_is_not_changed(self):
        calls = Unchanged(flat(MANY))
        self.assertEqual(answers(calls), TOLD)
        self.assertEqual(list(calls), flat(MANY))

    def test_2000_calls(self):
        calls = [0, 1, 0, 100] + [2, 7, 16777215, 0, 99, 1] * 1998
        self.assertEqual(answers(calls), [1, 0] * 2000)

    def test_begin_again_in_the_midst(self):
        self.assertEqual(answers(flat(MANY + MANY)), TOLD + TOLD)


if __name__ == "__main__":
    unittest.main()

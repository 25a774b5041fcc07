import copy
import unittest

from marchmend import errors
from marchmend.errors import MarchError, NoHarms, NoTest, NoText

OF_A_TEXT = ["NoMemory", "NoAddress", "NoBit", "NoOrders", "NotSure",
             "NoKind", "NoSpares", "NoRow", "NoName", "TooMany"]
NAMES = ["NoTest", "NoText", "NoHarms"] + OF_A_TEXT


def made():
    refusals = [NoTest(1, 2), NoText(3), NoHarms(4)]
    return refusals + [getattr(errors, name)("why") for name in OF_A_TEXT]


class Family(unittest.TestCase):
    def test_thirteen_are_there(self):
        self.assertEqual(13, len(NAMES))
        self.assertEqual(NAMES, [refusal.__class__.__name__ for refusal in made()])

    def test_march_error_stands_straight_under_value_error(self):
        self.assertEqual((ValueError,), MarchError.__bases__)

    def test_each_stands_straight_under_march_error(self):
        for name in NAMES:
            with self.subTest(name):
                self.assertEqual((MarchError,), getattr(errors, name).__bases__)

    def test_each_is_a_march_error_a_value_error_and_none_of_the_others(self):
        for refusal in made():
            own = refusal.__class__.__name__
            with self.subTest(own):
                self.assertIsInstance(refusal, MarchError)
                self.assertIsInstance(refusal, ValueError)
                matched = [name for name in NAMES if isinstance(refusal, getattr(errors, name))]
                self.assertEqual([own], matched)

    def test_each_can_be_raised_and_taken_by_each_name_above_it(self):
        for refusal in made():
            for above in (refusal.__class__, MarchError, ValueError):
                with self.subTest(refusal=refusal, above=above):
                    with self.assertRaises(above) as caught:
                        raise refusal
                    self.assertIs(refusal, caught.exception)


class Fields(unittest.TestCase):
    def test_no_test_has_element_then_step(self):
        refusal = NoTest(5, 2)
        self.assertEqual((5, 2), (refusal.element, refusal.step))
        self.assertEqual({"element": 5, "step": 2}, vars(refusal))

    def test_no_text_has_element(self):
        self.assertEqual(7, NoText(7).element)
        self.assertEqual({"element": 7}, vars(NoText(7)))

    def test_no_harms_has_number(self):
        self.assertEqual(2, NoHarms(2).number)
        self.assertEqual({"number": 2}, vars(NoHarms(2)))

    def test_none_is_kept_as_it_is(self):
        refusal = NoTest(None, None)
        self.assertIsNone(refusal.element)
        self.assertIsNone(refusal.step)
        self.assertIsNone(NoTest(0, None).step)
        self.assertEqual(0, NoTest(0, None).element)
        self.assertIsNone(NoHarms(None).number)

    def test_they_are_made_of_just_their_fields(self):
        for maker, fields in ((NoTest, (1, 2)), (NoText, (1,)), (NoHarms, (1,))):
            with self.subTest(maker):
                maker(*fields)
                with self.assertRaises(TypeError):
                    maker(*fields[:-1])
                with self.assertRaises(TypeError):
                    maker(*fields, 3)

    def test_each_object_has_its_own(self):
        one, other = NoTest(1, 2), NoTest(3, None)
        self.assertEqual((1, 2, 3, None), (one.element, one.step, other.element, other.step))

    def test_those_of_a_text_keep_it(self):
        for name in OF_A_TEXT:
            with self.subTest(name):
                self.assertEqual("why", str(getattr(errors, name)("why")))

    def test_they_can_be_copied_and_shown(self):
        for refusal in made():
            with self.subTest(refusal):
                twin = copy.copy(refusal)
                self.assertEqual(refusal.__class__, twin.__class__)
                self.assertEqual(vars(refusal), vars(twin))
                self.assertTrue(str(refusal))


if __name__ == "__main__":
    unittest.main()

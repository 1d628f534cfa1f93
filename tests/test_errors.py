import unittest

from beadnets.errors import NetError, NoMove, NoNet, TooFew


class Errors(unittest.TestCase):
    def test_any_refusal_is_a_net_error(self):
        self.assertEqual(NetError.__bases__, (ValueError,))
        for error in (NoNet, NoMove, TooFew):
            self.assertEqual(error.__bases__, (NetError,))

    def test_the_refusals_are_different_ones(self):
        self.assertEqual(len({NoNet, NoMove, TooFew}), 3)


if __name__ == "__main__":
    unittest.main()

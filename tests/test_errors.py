import unittest

from movecollect import errors


class ErrorsTest(unittest.TestCase):
    def test_any_refusal_is_a_value_error(self):
        self.assertEqual(errors.HeapError.__bases__, (ValueError,))

    def test_each_refusal_is_a_heap_error_of_its_own(self):
        kinds = (errors.NoThing, errors.NoField, errors.NoRoot)
        for kind in kinds:
            self.assertEqual(kind.__bases__, (errors.HeapError,))
        self.assertEqual(len(set(kinds)), 3)


if __name__ == "__main__":
    unittest.main()

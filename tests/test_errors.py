import unittest

from quillrun import errors
from quillrun.errors import QuillrunError, RefusedChunk


class ErrorsTest(unittest.TestCase):
    def test_all_errors_stand_under_the_base_class(self):
        names = ("InvalidArgument", "OutOfText", "NothingToTakeBack", "DamagedPacket", "UnfitArguments",
                 "PowerOff", "WorkshopClosed", "WorkshopOpen", "RefusedChunk")
        found = [getattr(errors, name) for name in names]
        for error in found:
            self.assertIs(error.__bases__[0], QuillrunError)
        self.assertEqual(len(set(found)), len(names))

    def test_the_base_class_is_a_value_error(self):
        self.assertIs(QuillrunError.__bases__[0], ValueError)

    def test_a_refused_chunk_has_its_position(self):
        self.assertEqual(RefusedChunk(0).position, 0)
        self.assertEqual(RefusedChunk(17).position, 17)


if __name__ == "__main__":
    unittest.main()

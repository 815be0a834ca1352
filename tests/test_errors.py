from tests.helpers import ShardCase
from textshards import errors

NAMES = ("EmptyText", "RangeError", "TooLarge", "TransformError", "VersionError", "GrainError", "ShapeError",
         "LackingError", "GraphError", "RingError", "DistanceError", "BudgetError", "ReportError")


class ErrorsTest(ShardCase):
    def test_shard_error_stands_under_value_error(self):
        self.assertEqual(errors.ShardError.__bases__, (ValueError,))

    def test_all_others_stand_directly_under_shard_error(self):
        for name in NAMES:
            self.assertEqual(getattr(errors, name).__bases__, (errors.ShardError,), name)
            self.assertEqual(getattr(errors, name).__module__, "textshards.errors", name)

"""What the functions on weights, characters and tables do with wrong arguments."""

import unittest

from tests.refusals import Refusals
from weylweights import characters, tables, weights

MATRIX = {"matrix": "matrix"}


class Arguments(Refusals, unittest.TestCase):
    FUNCTIONS = (
        (weights, weights.is_weight, {**MATRIX, "value": "value"}),
        (weights, weights.root_coordinates, {**MATRIX, "weight": "weight"}),
        (weights, weights.is_below, {**MATRIX, "weight": "weight", "other": "weight"}),
        (weights, weights.dominant_of, {**MATRIX, "weight": "weight"}),
        (weights, weights.orbit, {**MATRIX, "weight": "weight"}),
        (weights, weights.dominant_below, {**MATRIX, "weight": "highest"}),
        (characters, characters.dimension, {**MATRIX, "weight": "dominant"}),
        (characters, characters.table_of, {**MATRIX, "weight": "highest"}),
        (characters, characters.count_in, {**MATRIX, "weight": "highest", "other": "weight"}),
        (tables, tables.is_table, {**MATRIX, "value": "value"}),
        (tables, tables.is_sum, {**MATRIX, "value": "value"}),
        (tables, tables.is_alike, {**MATRIX, "table": "table"}),
        (tables, tables.table_of_sum, {**MATRIX, "total": "total"}),
        (tables, tables.sum_of, {**MATRIX, "table": "table"}),
        (tables, tables.lacking, {**MATRIX, "table": "table"}),
        (tables, tables.table_plus, {**MATRIX, "table": "table", "other": "table"}),
        (tables, tables.table_times, {**MATRIX, "table": "table", "other": "table"}),
    )


if __name__ == "__main__":
    unittest.main()

"""What the functions on products, Levi parts, paths and crystals do with wrong arguments."""

import unittest

from tests.refusals import Refusals
from weylweights import crystals, levis, paths, products

MATRIX = {"matrix": "matrix"}
SUM = {**MATRIX, "total": "total"}
PATH = {**MATRIX, "path": "path"}
WORD = {**MATRIX, "weight": "highest", "word": "word"}


class Arguments(Refusals, unittest.TestCase):
    FUNCTIONS = (
        (products, products.product, {**SUM, "other": "total"}),
        (products, products.dual, SUM),
        (products, products.adams, {**SUM, "count": "adams"}),
        (products, products.symmetric_power, {**SUM, "count": "power"}),
        (products, products.exterior_power, {**SUM, "count": "power"}),
        (products, products.indicator, {**MATRIX, "weight": "dominant"}),
        (levis, levis.levi_matrix, {**MATRIX, "nodes": "nodes"}),
        (levis, levis.restricted, {**MATRIX, "nodes": "nodes", "total": "total"}),
        (paths, paths.is_path, {**MATRIX, "value": "value"}),
        (paths, paths.straight, {**MATRIX, "weight": "highest"}),
        (paths, paths.end_of, PATH),
        (paths, paths.lowered, {**PATH, "node": "node"}),
        (paths, paths.raised, {**PATH, "node": "node"}),
        (paths, paths.how_low, {**PATH, "node": "node"}),
        (paths, paths.how_high, {**PATH, "node": "node"}),
        (paths, paths.reflected, {**PATH, "node": "node"}),
        (paths, paths.turned_back, PATH),
        (paths, paths.top_of, PATH),
        (crystals, crystals.crystal, {**MATRIX, "weight": "highest"}),
        (crystals, crystals.product_by_paths, {**MATRIX, "weight": "highest", "other": "highest"}),
        (crystals, crystals.restricted_by_paths, {**MATRIX, "nodes": "nodes", "weight": "highest"}),
        (crystals, crystals.demazure, WORD),
        (crystals, crystals.demazure_paths, WORD),
    )


if __name__ == "__main__":
    unittest.main()

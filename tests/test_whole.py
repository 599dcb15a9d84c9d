# What holds over the whole program, by its texts alone.
import ast
import inspect
import pathlib
import random
import unittest

from tests.samples import some_shop, some_works
from warmshare import errors, least, levels, sharing, shops, streams, works

PACKAGE = pathlib.Path(works.__file__).resolve().parent
INTERFACE = {
    works: {"read": ["text"], "shown": ["works"]},
    levels: {"given_at": ["works", "level"], "wanted_at": ["works", "level"], "lack_above": ["works", "level"]},
    least: {"least_heat": ["works"], "least_cold": ["works"], "pinch": ["works"]},
    sharing: {"shared": ["works"], "looked_through": ["works", "passes"]},
    shops: {"will_do": ["works", "shop", "buying"], "price_of": ["shop", "buying"], "cheapest": ["works", "shop"]},
    streams.Streams: {"put_hot": ["self", "start", "goal", "rate"], "put_cold": ["self", "start", "goal", "rate"],
                      "take_out": ["self", "number"], "works": ["self"], "least": ["self"],
                      "change_with": ["self", "kind", "start", "goal", "rate"],
                      "change_without": ["self", "number"], "__init__": ["self", "gap"]},
}


class Interface(unittest.TestCase):
    def test_everything_is_there_under_its_name(self):
        for home, names in INTERFACE.items():
            for name, arguments in names.items():
                self.assertEqual(list(inspect.signature(getattr(home, name)).parameters), arguments, name)

    def test_the_refusals(self):
        for name in ("HeatError", "NoRow", "NoMeasure", "WrongWay", "Full", "NoStream"):
            self.assertTrue(issubclass(getattr(errors, name), ValueError))


class Point1(unittest.TestCase):
    def test_nothing_but_the_package_itself_is_drawn_on(self):
        for path in PACKAGE.glob("*.py"):
            for node in ast.walk(ast.parse(path.read_text(encoding="utf-8"))):
                self.assertNotIsInstance(node, ast.Import, path.name)
                if isinstance(node, ast.ImportFrom):
                    self.assertTrue(node.module.startswith("warmshare."), path.name)


class Point3(unittest.TestCase):
    def test_a_works_from_its_text_to_its_cheapest_buying(self):
        source = random.Random(3)
        for _ in range(20):
            one = works.read(works.shown(some_works(source)))
            heat, cold = least.least_heat(one), least.least_cold(one)
            self.assertEqual(heat - cold, levels.lack_above(one, 0))
            self.assertEqual(sharing.looked_through(one, sharing.shared(one)), (heat, cold))
            seen = least.pinch(one)
            self.assertEqual(heat, 0 if seen is None else levels.lack_above(one, seen))
            shop = some_shop(source, heat + cold + 1)
            told = shops.cheapest(one, shop)
            if told[0] == "bought":
                self.assertTrue(shops.will_do(one, shop, told[1]))
                self.assertGreaterEqual(sum(told[1][0]), heat)
                self.assertGreaterEqual(sum(told[1][1]), cold)

    def test_a_streams_object_tells_what_its_works_tells(self):
        source = random.Random(30)
        for _ in range(10):
            one = some_works(source)
            coming = streams.Streams(one[0])
            for stream in one[2]:
                coming.put_cold(*stream)
            for stream in one[1]:
                coming.put_hot(*stream)
            self.assertEqual(works.shown(coming.works()), works.shown(one))
            self.assertEqual(coming.least(), (least.least_heat(one), least.least_cold(one), least.pinch(one)))


if __name__ == "__main__":
    unittest.main()

"""The document's example, and the examples of README.md."""

import doctest
import pathlib
import unittest

from pagewake.client import Client
from pagewake.records import judge, shown_behind
from pagewake.server import Server
from pagewake.sleepers import may_be_called, never_wanted, sleepers
from programs import at, example

BOX = ("box", "p", (("text", "n "), ("text", "0")))
COUNTED = ("box", "p", (("text", "n "), ("text", "1")))
FIVE = ("text", "5")
PAGE = "- (a0/- p 0 'n ''0')[a1/- 1 - 0 '5']{0}!"


class ExampleTest(unittest.TestCase):
    def test_row_by_row(self):
        program = example()
        self.assertEqual(program, (
            "program",
            (
                (
                    "component", (0,),
                    (
                        ("box", "p", None, 0, (("text", "n "), ("show", ("cell", 0)))),
                        ("child", 1, None, ()), ("part", 0),
                    ),
                    ((("set", 0, ("plus", ("cell", 0), ("num", 1))),),),
                ),
                ("component", (), (("show", ("store", 0)),), ()),
            ),
            (5,), (1,),
        ))
        server = Server(program)
        self.assertEqual(server.render(), PAGE)
        client = Client(program)
        self.assertIsNone(client.feed(server.sent[:21]))
        self.assertEqual(client.nodes(), (("box", 0, "p", (("text", 1, "n "), ("text", 2, "0"))),))
        self.assertEqual(client.event(2, True), True)
        self.assertEqual((client.deeds, client.whole, client.world), (((("act", (), 0), True),), False, None))
        self.assertIsNone(client.feed(server.sent[21:]))
        self.assertIsNone(client.start())
        self.assertEqual((client.work(1), client.wants()), (False, (0,)))
        self.assertIsNone(client.code(0))
        self.assertEqual((client.work(1), client.sight()), (False, (BOX, FIVE)))
        self.assertEqual((client.work(1), client.sight()), (True, (COUNTED, FIVE)))
        client.feed(server.resolve(0))
        self.assertEqual((client.work(0), client.sight()), (True, (COUNTED, FIVE, FIVE)))
        self.assertEqual(client.awake, ((),))
        self.assertEqual(client.codes, (0,))
        self.check_behind(program, client)

    def check_behind(self, program, client):
        """What the record tells of it."""
        self.assertEqual(client.record, (
            ("commit", True, 1, 1, (0,), (((), 2),), (), ()),
            ("commit", True, 2, 2, (0, 1), (), (4,), ()),
        ))
        self.assertEqual(client.nodes(), (
            ("box", 0, "p", (("text", 1, "n "), ("text", 2, "1"))), ("text", 3, "5"), ("text", 4, "5"),
        ))
        self.assertEqual(client.world, ("world", (5,), (((), (1,)), ((at(1),), ()), ((("part", 0),), ())), (0,)))
        self.assertTrue(judge(program, (), client.deeds, client.record, client.nodes()))
        found = [shown_behind(program, (), client.deeds, client.record, number) for number in range(3)]
        self.assertEqual(found, [(BOX, FIVE), (COUNTED, FIVE), (COUNTED, FIVE, FIVE)])
        # The first component may be called, and the second one is a child of it.
        self.assertEqual((may_be_called(program), sleepers(program), never_wanted(program)), ((0, 1), (), ()))

    def test_every_cut(self):
        for cut in range(len(PAGE) + 1):
            client = Client(example())
            client.feed(PAGE[:cut])
            client.nodes()
            client.feed(PAGE[cut:])
            client.start()
            client.code(0)
            client.event(0, False)
            self.assertEqual((client.work(2), client.sight()), (True, (COUNTED, FIVE)))


class ReadmeTest(unittest.TestCase):
    def test_readme(self):
        path = pathlib.Path(__file__).resolve().parent.parent / "README.md"
        failed, tried = doctest.testfile(str(path), module_relative=False)
        self.assertEqual(failed, 0)
        self.assertGreater(tried, 0)


if __name__ == "__main__":
    unittest.main()

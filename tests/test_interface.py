import importlib
import inspect
import pathlib
import unittest

FUNCTIONS = {
    "turning": {
        "gone": ["size", "one", "other"],
        "shown_then": ["size", "value", "use"],
        "share": ["use", "days", "at"],
    },
    "tariffs": {
        "with_tariff": ["tariffs", "tariff"],
        "tariff_on": ["tariffs", "day"],
        "cost": ["tariff", "use"],
    },
    "histories": {
        "begun": ["history", "day", "size", "value"],
        "read_on": ["history", "day", "value"],
        "changed_on": ["history", "day", "last", "size", "first"],
        "struck": ["history", "day"],
        "size_at": ["history", "place"],
    },
    "points": {
        "points": ["history", "most"],
        "spans": ["history", "most"],
    },
    "days": {
        "use_on": ["history", "most", "day"],
        "uses": ["history", "most", "low", "high"],
        "known_to": ["history", "most"],
    },
    "bills": {
        "owed": ["history", "most", "tariffs", "day"],
        "billed": ["bills"],
        "with_bill": ["history", "most", "tariffs", "bills", "day"],
    },
    "plays": {
        "play": ["most", "deeds"],
    },
}


class InterfaceTest(unittest.TestCase):
    def test_functions_stand_in_their_files_with_their_arguments(self):
        for name, functions in FUNCTIONS.items():
            module = importlib.import_module(f"metergap.{name}")
            for word, arguments in functions.items():
                with self.subTest(module=name, function=word):
                    function = getattr(module, word)
                    self.assertTrue(inspect.isfunction(function))
                    self.assertEqual(function.__module__, f"metergap.{name}")
                    parameters = inspect.signature(function).parameters
                    self.assertEqual(list(parameters), arguments)

    def test_the_arguments_go_by_their_names(self):
        turning = importlib.import_module("metergap.turning")
        tariffs = importlib.import_module("metergap.tariffs")
        histories = importlib.import_module("metergap.histories")
        self.assertEqual(turning.gone(size=10, one=8, other=3), 5)
        self.assertEqual(turning.shown_then(size=10, value=8, use=5), 3)
        self.assertEqual(turning.share(use=10, days=4, at=1), 3)
        rows = tariffs.with_tariff(tariffs=(), tariff=(1, 2, 3, 4, 5))
        row = tariffs.tariff_on(tariffs=rows, day=1)
        self.assertEqual(tariffs.cost(tariff=row, use=5), 2 + 3 * 4 + 5)
        history = histories.begun(history=(), day=1, size=10, value=2)
        history = histories.read_on(history=history, day=2, value=3)
        history = histories.changed_on(history=history, day=3, last=4, size=5, first=1)
        history = histories.struck(history=history, day=2)
        self.assertEqual(histories.size_at(history=history, place=2), 5)

    def test_the_arguments_of_what_is_worked_out_go_by_their_names(self):
        points = importlib.import_module("metergap.points")
        days = importlib.import_module("metergap.days")
        bills = importlib.import_module("metergap.bills")
        plays = importlib.import_module("metergap.plays")
        history = (("start", 1, 10, 2), ("read", 3, 6, False))
        tariffs = ((0, 0, 1, 9, 9),)
        self.assertEqual(points.points(history=history, most=5), [0, 1])
        self.assertEqual(points.spans(history=history, most=5), [(1, 3, 4)])
        self.assertEqual(days.use_on(history=history, most=5, day=2), 2)
        self.assertEqual(days.uses(history=history, most=5, low=0, high=3), [0, 2, 2])
        self.assertEqual(days.known_to(history=history, most=5), 3)
        self.assertEqual(bills.owed(history=history, most=5, tariffs=tariffs, day=3), 4)
        told = bills.with_bill(history=history, most=5, tariffs=tariffs, bills=(), day=4)
        self.assertEqual(bills.billed(bills=told), 6)
        self.assertEqual(plays.play(most=5, deeds=[("use", 1)]), ([0], ((), (), ())))

    def test_the_package_holds_source_files_alone(self):
        folder = pathlib.Path(__file__).parent.parent / "metergap"
        for path in folder.iterdir():
            if path.name != "__pycache__":
                self.assertEqual(path.suffix, ".py")

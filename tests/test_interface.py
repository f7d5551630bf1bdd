import importlib
import inspect
import unittest

# The functions and classes of the interface, with their arguments.
INTERFACE = {
    "errors": {
        "SecondError": None, "BadValue": "at", "BadText": "at", "BadRow": "at", "Clash": "fact", "NoCall": "call",
        "TakenCall": "call", "NoMoney": None, "NotNow": None,
    },
    "plans": {
        "is_plan": "value", "ring": "plan number second", "holder": "plan number second", "first_circle": "plan",
        "plans_part": "one other",
    },
    "weeks": {
        "is_week": "value", "band": "week second", "next_change": "week second",
        "seconds_in": "week first last band",
    },
    "tariffs": {
        "is_tariff": "value", "zone": "tariff number", "price": "tariff week number second",
        "cost": "tariff week number begin length", "most": "tariff week number begin money cap",
        "tariffs_part": "one other week",
    },
    "bundles": {
        "least_bill": "groups bundles", "uses": "groups bundles", "paper": "groups bundles",
        "paper_holds": "groups bundles bound value",
    },
    "shares": {"shares": "whole weights", "tax": "amount rate"},
    "houses": {"House": "week blocks rates cycle rate", "rebuilt": "rows"},
    "carriers": {"payments": "accounts", "settles": "accounts value"},
    "purses": {"Purse": "week tariff money"},
    "texts": {"printed": "fact", "parse": "text"},
}
METHODS = {
    ("houses", "House"): {
        "tell": "fact", "facts": "", "plan": "", "ring": "number second", "usage": "customer cycle", "unheld": "cycle",
        "bill": "customer cycle", "customers": "", "close": "", "invoices": "", "invoiced": "customer cycle",
        "pay": "customer amount", "balance": "customer", "owed": "", "copy": "", "log": "", "__eq__": "other",
    },
    ("purses", "Purse"): {
        "put": "amount", "money": "", "held": "", "begin": "call number second cap", "more": "call cap",
        "end": "call length", "running": "", "ended": "", "copy": "", "__eq__": "other",
    },
}


class InterfaceTest(unittest.TestCase):

    def test_each_name_is_defined_in_its_file_with_its_arguments(self):
        for module_name, names in INTERFACE.items():
            module = importlib.import_module(f"eachsecond.{module_name}")
            for name, arguments in names.items():
                with self.subTest(module=module_name, name=name):
                    made = getattr(module, name)
                    self.assertEqual((made.__module__, made.__name__), (module.__name__, name))
                    if arguments is not None:
                        self.assertEqual(" ".join(inspect.signature(made).parameters), arguments)

    def test_each_method_is_defined_in_its_class_with_its_arguments(self):
        for (module_name, class_name), methods in METHODS.items():
            made = getattr(importlib.import_module(f"eachsecond.{module_name}"), class_name)
            self.assertEqual(made.__bases__, (object,))
            for name, arguments in methods.items():
                with self.subTest(made=class_name, name=name):
                    method = vars(made)[name]
                    self.assertTrue(inspect.isfunction(method))
                    self.assertEqual(" ".join(list(inspect.signature(method).parameters)[1:]), arguments)


if __name__ == "__main__":
    unittest.main()

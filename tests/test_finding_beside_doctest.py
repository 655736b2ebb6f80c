"""[37] beside Python's own doctest: real modules with functions and classes, and the same modules as data."""

import collections
import doctest
import random
import types
import unittest

from promptyard.finding import find_tests

SORTS = ["function", "class", "property", "static", "class method", "value"]


class Maker:
    """What makes real modules, and tells them as data."""

    def __init__(self, chance):
        self.chance = chance
        self.module = types.ModuleType("m", chance.choice([None, "", "doc of m"]))
        self.made = []

    def function(self, doc, is_here):
        made = types.FunctionType((lambda: None).__code__, self.module.__dict__ if is_here else {}, "f")
        made.__doc__ = doc
        made.__module__ = "m" if is_here else "n"
        return made

    def thing(self, depth, wraps):
        """A real thing, and the member that tells it; of those that stand in no class some are not wrapped."""
        if self.made and self.chance.random() < 0.3:
            real, member = self.chance.choice(self.made)
            sort = member["sort"]
            if sort == "function" and wraps and self.chance.random() < 0.5:
                kind = self.chance.choice([staticmethod, classmethod])
                return kind(real), {**member, "sort": "static" if kind is staticmethod else "class method"}
            return real, member
        sort = self.chance.choice(SORTS if wraps else ["function", "class", "value"])
        doc = self.chance.choice([None, "", "doc", "more"])
        is_here = self.chance.random() < 0.8
        member = {"sort": sort, "mark": len(self.made), "doc": doc}
        if not is_here:
            member["module"] = "n"
        elif self.chance.random() < 0.5:
            member["module"] = "m"
        if sort == "value":
            return 5, {"sort": sort, "doc": doc}
        if sort == "property":
            real = property(lambda self: None, doc=doc)
            real = property(self.function(doc, True)) if doc else real
        elif sort == "class":
            held = {"__module__": "m" if is_here else "n", "__doc__": doc}
            # Known ahead of its members, so that it may stand in itself.
            member["members"] = {}
            real = type("C", (), held)
            self.made.append((real, member))
            for name in "abc"[:self.chance.randrange(4) if depth else 0]:
                inner, told = self.thing(depth - 1, True)
                setattr(real, name, inner)
                member["members"][name] = told
            return real, member
        else:
            real = self.function(doc, is_here)
            self.made.append((real, {**member, "sort": "function"}))
            wrapped = {"static": staticmethod, "class method": classmethod}
            return (wrapped[sort](real) if sort in wrapped else real), member
        self.made.append((real, member))
        return real, member


def whole(member, depth):
    """A copy of a member in which nothing stands in itself: what would is told without members."""
    if "members" not in member:
        return dict(member)
    inner = {name: whole(told, depth - 1) for name, told in member["members"].items()} if depth else {}
    return {**member, "members": inner}


def made_module(chance):
    """A real module, and the same one as data."""
    maker = Maker(chance)
    told = {"name": "m", "doc": maker.module.__doc__, "members": {}, "tests": {}}
    for name in "abcde"[:chance.randrange(6)]:
        real, member = maker.thing(2, False)
        if member["sort"] not in ("property",):
            setattr(maker.module, name, real)
            told["members"][name] = member
    maker.module.__test__ = {}
    for key in "xyz"[:chance.randrange(4)]:
        real, member = maker.thing(1, False)
        if chance.random() < 0.4:
            # Python takes equal texts for the same thing.
            real = member = "text " + key
        elif member["sort"] in ("property", "value"):
            continue
        maker.module.__test__[key] = real
        told["tests"][key] = member
    told["members"] = {name: whole(member, 4) for name, member in told["members"].items()}
    told["tests"] = {key: thing if isinstance(thing, str) else whole(thing, 4) for key, thing in told["tests"].items()}
    return maker.module, told


class Found(unittest.TestCase):
    def test_the_same_things_are_found(self):
        chance = random.Random(41)
        sizes = collections.Counter()
        for _ in range(1500):
            module, told = made_module(chance)
            for exclude_empty in (True, False):
                real = doctest.DocTestFinder(exclude_empty=exclude_empty).find(module, "m", module)
                wanted = sorted(test.name.replace(".__test__.", ".tests.") for test in real)
                found = find_tests(told, exclude_empty=exclude_empty)
                self.assertEqual([test.name for test in found], wanted, told)
                sizes[len(found)] += 1
        self.assertGreater(len(sizes), 8)


if __name__ == "__main__":
    unittest.main()

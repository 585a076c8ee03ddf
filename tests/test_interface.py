"""The interface: what is given back, and that nothing else is done."""

import ast
import contextlib
import inspect
import io
import pathlib
import subprocess
import sys
import unittest

import wideunit.unit
from tests.support import (
    CONSTANTS, EXTRACT, GREATEST, LEAST, LOUD, MINUS_INF, MINUS_ONE, MOST, NARROW, NEARLY_SMALL, ODD_ONES, ONE, ONE_OPS,
    PLUS_INF, PLUS_ZERO, PRECISIONS, PREM, PREM1, QUIET, ROUNDINGS, TOO_MANY, TWO_OPS, WIDTHS, ext)
from wideunit.unit import constant, load, loadp, loadw, one, store, storep, storew, two

ROOT = pathlib.Path(__file__).resolve().parent.parent
OPERANDS = (
    PLUS_ZERO, LEAST, NEARLY_SMALL, ONE, MINUS_ONE, GREATEST, PLUS_INF, MINUS_INF, QUIET, LOUD, ODD_ONES[0],
    ext(0xC000, 0xC90FDAA22168C235), TOO_MANY[0])
NARROW_BITS = (0, 1, 0x3F800000, 0x7F800000, 0x7F800001, 0xFFC00000, 0x7FF0000000000001, (1 << 64) - 1, 1 << 64, MOST)
WHOLE = (0, 1, -1, (1 << 63) - 1, -(1 << 63), 1 << 63, -(1 << 63) - 1, MOST, -MOST - 1)
PACKED = ((0,) * 10, (0x34, 0x12, 0, 0, 0, 0, 0, 0, 0, 0x80), (0x99,) * 9 + (0xFF,), (0,) * 8 + (0xA0, 0))
ARGUMENTS = {
    two: "op q r a b", one: "op q r a", load: "f x", loadw: "z", loadp: "packed", store: "f r a", storew: "n r a",
    storep: "r a", constant: "k r"}


def calls():
    for r in ROUNDINGS:
        for q in PRECISIONS:
            for a in OPERANDS:
                for op in ONE_OPS:
                    yield one, (op, q, r, a)
                for b in OPERANDS:
                    for op in TWO_OPS:
                        yield two, (op, q, r, a, b)
    for f in NARROW:
        for x in NARROW_BITS:
            yield load, (f, x)
    for z in WHOLE:
        yield loadw, (z,)
    for packed in PACKED:
        yield loadp, (list(packed),)
    for r in ROUNDINGS:
        for a in OPERANDS:
            for f in NARROW:
                yield store, (f, r, a)
            for n in WIDTHS:
                yield storew, (n, r, a)
            yield storep, (r, a)
        for k in CONSTANTS:
            yield constant, (k, r)


def refusal(call, handed):
    """The number of the refusal, or 0."""
    if call is constant:
        return 0
    if call is loadp:
        return -2 if handed[0][8] > 0x99 else 0
    if call is load:
        refused = handed[1] >= 1 << (32 if handed[0] == 1 else 64)
    elif call is loadw:
        refused = not -(1 << 63) <= handed[0] < 1 << 63
    else:
        refused = TOO_MANY[0] in handed
    return -1 if refused else 0


def how_many(call, handed):
    """How many numbers are told behind the 0."""
    if call is two and handed[0] in (PREM, PREM1) or call is one and handed[0] == EXTRACT:
        return 3
    if call is storep:
        return 11
    return 1 if call in (loadw, loadp, constant) else 2


class GivenBack(unittest.TestCase):
    def test_a_list_of_whole_numbers(self):
        for call, handed in calls():
            told = call(*handed)
            self.assertIs(type(told), list)
            self.assertTrue(all(type(x) is int for x in told), (handed, told))

    def test_how_many(self):
        for call, handed in calls():
            told = call(*handed)
            if refusal(call, handed):
                self.assertEqual(told, [refusal(call, handed)])
                continue
            self.assertEqual(told[0], 0)
            self.assertEqual(len(told), 1 + how_many(call, handed), (call, handed))
            self.assert_in_range(call, handed, told)

    def assert_in_range(self, call, handed, told):
        low, high = 0, 1 << 80
        if call is storew:
            low, high = -(1 << handed[0] - 1), 1 << handed[0] - 1
        elif call is storep:
            high = 1 << 8
        elif call is store:
            high = 1 << (32 if handed[0] == 1 else 64)
        self.assertTrue(all(low <= x < high for x in told), (call, handed, told))

    def test_names_of_the_arguments(self):
        for call, names in ARGUMENTS.items():
            self.assertEqual(list(inspect.signature(call).parameters), names.split())
            self.assertIs(getattr(wideunit.unit, call.__name__), call)
        self.assertEqual(two(op=0, q=64, r=0, a=ONE, b=PLUS_ZERO), [0, ONE, 0])
        self.assertEqual(one(op=2, q=64, r=0, a=MINUS_ONE), [0, ONE, 0])
        self.assertEqual(load(f=1, x=0x3F800000), [0, ONE, 0])
        self.assertEqual(loadw(z=-1), [0, MINUS_ONE])
        self.assertEqual(loadp(packed=[1, 0, 0, 0, 0, 0, 0, 0, 0, 0x80]), [0, MINUS_ONE])
        self.assertEqual(store(f=1, r=0, a=ONE), [0, 0x3F800000, 0])
        self.assertEqual(storew(n=16, r=0, a=MINUS_ONE), [0, -1, 0])
        self.assertEqual(constant(k=0, r=0), [0, ONE])
        self.assertEqual(storep(r=0, a=MINUS_ONE), [0, 1, 0, 0, 0, 0, 0, 0, 0, 0, 0x80, 0])


class Untouchable(list):
    """A list that fails where it would be changed."""

    def refuse(self, *handed, **named):
        raise AssertionError("what is handed in is changed")

    __setitem__ = __delitem__ = __iadd__ = __imul__ = refuse
    append = clear = extend = insert = pop = remove = reverse = sort = refuse


class HandedIn(unittest.TestCase):
    def test_is_not_changed_even_for_a_while(self):
        for packed in PACKED:
            self.assertEqual(loadp(Untouchable(packed)), loadp(list(packed)))


class NothingKept(unittest.TestCase):
    def test_in_whatever_order(self):
        first = [call(*handed) for call, handed in calls()]
        second = [call(*handed) for call, handed in reversed(list(calls()))]
        self.assertEqual(first, second[::-1])

    def test_what_was_given_back_may_be_changed(self):
        for call, handed in calls():
            told = call(*handed)
            asked = list(told)
            told.append(7)
            told[0] = 99
            self.assertEqual(call(*handed), asked)

    def test_nothing_at_the_files_tops_changes(self):
        def state():
            return {(name, key): repr(kept) for name, module in sys.modules.items() if name.startswith("wideunit")
                    for key, kept in vars(module).items() if not key.startswith("__")}
        before = state()
        for call, handed in calls():
            call(*handed)
        self.assertEqual(state(), before)


class NothingElseDone(unittest.TestCase):
    def test_nothing_is_printed(self):
        out, err = io.StringIO(), io.StringIO()
        with contextlib.redirect_stdout(out), contextlib.redirect_stderr(err):
            for call, handed in calls():
                call(*handed)
        self.assertEqual((out.getvalue(), err.getvalue()), ("", ""))

    def test_nothing_from_outside_is_imported(self):
        for path in (ROOT / "wideunit").rglob("*.py"):
            for node in ast.walk(ast.parse(path.read_text())):
                self.assertNotIsInstance(node, ast.Import if path.name != "__main__.py" else ast.Global)
                if isinstance(node, ast.ImportFrom):
                    self.assertEqual(node.level, 0)
                    self.assertIn(node.module.split(".")[0], ("wideunit", "__future__"))

    def test_by_itself_in_a_new_python(self):
        code = (
            "import sys; before = set(sys.modules); import wideunit.unit; "
            "told = wideunit.unit.two(3, 64, 0, 0x3FFF8000000000000000, 0x4000C000000000000000); "
            "told += wideunit.unit.one(0, 64, 0, 0x40008000000000000000); "
            "print(told, sorted(name for name in set(sys.modules) - before if not name.startswith('wideunit')))")
        run = subprocess.run([sys.executable, "-c", code], cwd=ROOT, capture_output=True, text=True, check=True)
        third, root = 0x3FFDAAAAAAAAAAAAAAAB, 0x3FFFB504F333F9DE6484
        self.assertEqual(run.stdout, f"{[0, third, 160, 0, root, 32]} []\n")
        self.assertEqual(run.stderr, "")

    def test_calls_are_not_nested_deep(self):
        deepest = 0

        def watch(frame, event, argument):
            nonlocal deepest
            if event == "call":
                depth = 0
                while frame is not None:
                    depth, frame = depth + 1, frame.f_back
                deepest = max(deepest, depth)

        own = len(inspect.stack())
        far = [(two, (op, 64, 0, GREATEST, LEAST)) for op in TWO_OPS]
        wide = [(call, handed) for call, handed in calls() if call is not two]
        sys.setprofile(watch)
        try:
            for call, handed in far + wide:
                call(*handed)
        finally:
            sys.setprofile(None)
        self.assertGreater(deepest, own)
        self.assertLess(deepest - own, 100)


if __name__ == "__main__":
    unittest.main()

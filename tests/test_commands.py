import random
import unittest

from partsmet.commands import is_command, is_deed, is_name
from partsmet.texts import written
from tests.forms import KIND_TEXTS, STATE_TEXTS, VIEW_TEXTS
from tests.samples import ODD_VALUES, check_call

NAMES = ["a", "z", "m1", "k9", "abcdefgh", "a2345678", "kind", "undo", "count", "claim", "low"]
NO_NAMES = ["", "A", "1", "1a", "a_", "a-b", "a b", "aB", "abcdefghi", "a23456789", " a", "a ", "a\n", "a,b", "-", "a.b", "~"]
CLAIMS = ["even k", "uneven k", "single k", "double k", "one k v w", "parted k v w", "through k v s", "notthrough k v s",
          "alike k l", "unlike k l", "least s t u", "notleast s t u"]
DEEDS = ["kind n row 3", "put n row 3 2", "log n row 3", "view n same", "join n s t", "less n s t", "grow s t", "note g s",
         "thin g", "split g", "strip g s", "after n g h", "copy n s", "drop s", "forget c"]
DEEDS += [f"claim c {claim}" for claim in CLAIMS]
OTHERS = ["undo", "redo", "state c", "states", "claimed c", "names", "show s", "same s t", "grade k", "many k", "lots k",
          "ways k", "part s", "parts s", "atmost s t", "beside s t", "distance s t", "sum g", "needless g", "worth v s"]
# Commands of names alone: words and how many names they want.
FIXED = [line for line in DEEDS + OTHERS if line.split(" ")[0] not in ("kind", "put", "log", "view")]
WRONG = [
    "kind", "kind n", "kind n ", "kind n rows 3", "kind n row", "kind n row 03", "kind n row 0", "kind n row 21",
    "kind n row 3 ", "kind  n row 3", "kind n  row 3", "kind row 3", "kind n count count", "kind 1 count", "kind N count",
    "kind n tops 3 1<2,0<1", "kind n tops 3 0<1,0<1", "kind n table 0,1;1,0", "kind n map map map map count", "kind n count\n",
    "kind n kind count", "kind n pair count",
    "put n", "put n row 3", "put n row 3 3", "put n row 3 02", "put n 2", "put n row 3 2 ", "put n row 3  2", "put n row 3 2 2",
    "put n map count {a:0}", "put n map count {b:1,a:1}", "put n map count {a:1} {a:1}", "put n map count {a:1, b:1}",
    "put n tops 3 0<1 [0,1]", "put n pair count count (1,2", "put count 3", "put n count -1", "put n count True", "put 9 count 1",
    "put n above count count mid(1)", "put n count 1\n",
    "log", "log n", "log n count 1", "log n count entry 1", "log n cnt", "log N count", "log n count ", "log count",
    "view", "view n", "view n at", "view n at A", "view n at a b", "view n some a,a", "view n some", "view n some a,b,c,d,e,f,g",
    "view n renamed a", "view n renamed a>b,a>c", "view n both same", "view n then same", "view n values", "view n nothing",
    "view N same", "view n same ", "view n  same", "view n map count same", "view n then then then then then same same same "
    "same same same", "view n both both both same same both same same both both same same same",
    "claim", "claim c", "claim c even", "claim c even k k", "claim c odd k", "claim C even k", "claim c Even k", "claim even k",
    "claim c even K", "claim c  even k", "claim c even k ", "claim c one k v", "claim c one k v w x", "claim c through k v",
    "claim c alike k", "claim c least s t", "claim c least s t u v", "claim c claim even k", "claim c even row 2",
    "", " ", "\n", "Undo", "undo ", " undo", "undo 1", "redo x", "states c", "state", "names x", "again", "lines", "desk", "new s",
    "show", "same s", "worth v", "join n s", "less n s", "after n g", "copy n", "copy n s t", "drop", "drop s t", "forget",
    "forget c d", "thin", "thin g h", "note g", "grow s", "strip g", "split", "union n s t", "kind n row 3\nundo", "undo\n",
]


class IsName(unittest.TestCase):
    def test_names(self):
        for value in NAMES:
            check_call(self, True, is_name, value=value)
        for value in NO_NAMES + [value for value in ODD_VALUES if value not in ("a", "count")] + [b"a", ["a"], ("a",), 0]:
            check_call(self, False, is_name, value=value)

    def test_signs(self):
        for code in range(32, 127):
            sign = chr(code)
            if sign != "%":
                self.assertIs(is_name(sign), "a" <= sign <= "z")
                self.assertIs(is_name("a" + sign), "a" <= sign <= "z" or sign in "0123456789")


class Commands(unittest.TestCase):
    def test_tables(self):
        for line in DEEDS:
            check_call(self, True, is_command, value=line)
            check_call(self, True, is_deed, value=line)
        for line in OTHERS:
            check_call(self, True, is_command, value=line)
            check_call(self, False, is_deed, value=line)

    def test_wrong(self):
        for value in WRONG:
            check_call(self, False, is_command, value=value)
            check_call(self, False, is_deed, value=value)

    def test_any_values(self):
        for value in ODD_VALUES + [b"undo", ["undo"], ("undo",), ["drop", "s"], 0, 1, True]:
            check_call(self, False, is_command, value=value)
            check_call(self, False, is_deed, value=value)

    def test_one_part_otherwise(self):
        """A part left out, put in, or no name; and any name that is one."""
        for line in FIXED:
            parts = line.split(" ")
            first = 3 if parts[0] == "claim" else 1
            for at in range(first, len(parts)):
                for name in NAMES:
                    self.assertIs(is_command(" ".join(parts[:at] + [name] + parts[at + 1:])), True)
                for name in NO_NAMES:
                    self.assertIs(is_command(" ".join(parts[:at] + [name] + parts[at + 1:])), False)
                self.assertIs(is_command(" ".join(parts[:at] + parts[at + 1:])), False)
            for more in (line + " a", line + " ", " " + line, line.replace(" ", "  ", 1) + " " * (" " not in line),
                         line + "\n", line.upper()):
                self.assertIs(is_command(more), False, more)

    def test_names_that_are_new(self):
        for rest in ("kind {} count", "put {} count 1", "log {} count", "view {} same", "claim {} even k"):
            for name in NAMES:
                self.assertIs(is_deed(rest.format(name)), True)
            for name in NO_NAMES:
                self.assertIs(is_command(rest.format(name)), False)

    def test_written_values(self):
        for _, text in KIND_TEXTS:
            for line in (f"kind n {text}", f"log n {text}"):
                check_call(self, True, is_deed, value=line)
                self.assertIs(is_command(line + " x"), False)
                self.assertIs(is_command(line[:-1] + "x"), False)
        for kind, _, text in STATE_TEXTS:
            line = f"put n {written('kind', kind)[5:-1]} {text}"
            check_call(self, True, is_deed, value=line)
            for other in (line + "0" if text == "0" else line + " 0", line + ")", line[:-1] + "-", f"put n count {line}"):
                self.assertIs(is_command(other), False, other)
        for _, _, text in VIEW_TEXTS:
            check_call(self, True, is_deed, value=f"view n {text}")
            self.assertIs(is_command(f"view n {text} same"), False)

    def test_views_of_no_kind(self):
        """A view alone wants right words, names and depths, whatever kind it may be of."""
        for text in ["then first at a", "then second upper", "then joined first", "both at a first", "then at a then at b same",
                     "values values values values same", "then upper then second then first then joined same"]:
            check_call(self, True, is_deed, value=f"view n {text}")
        check_call(self, False, is_deed, value="view n values values values values values same")
        seven = "both both same same both same same"
        check_call(self, True, is_deed, value=f"view n both {seven} both same same")
        check_call(self, True, is_deed, value=f"view n both {seven} both same values same")
        check_call(self, False, is_deed, value=f"view n both {seven} both values same values same")
        check_call(self, False, is_deed, value=f"view n both {seven} both both same same same")

    def test_deeds_are_commands(self):
        mixed = random.Random(99)
        for line in DEEDS + OTHERS:
            for _ in range(40):
                at = mixed.randrange(len(line))
                other = line[:at] + mixed.choice(" abk19{}[],;<>-\n") + line[at + mixed.randrange(2):]
                self.assertTrue(is_command(other) or not is_deed(other))


if __name__ == "__main__":
    unittest.main()

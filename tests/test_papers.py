import unittest

from lanecross.papers import Denial, Paper, fixed


class FixedTest(unittest.TestCase):
    def test_lists_become_tuples(self):
        for value, told in (([], ()), ((), ()), ([1, [2, [3, ([4],)]]], (1, (2, (3, ((4,),))))), ((1, [2]), (1, (2,)))):
            self.assertEqual(fixed(value), told)
            self.assertEqual(repr(fixed(value)), repr(told))
            self.assertEqual(fixed(value=value), told)

    def test_other_values_stay(self):
        for value in (None, True, 0, 0.5, "text", b"x", {"a": [1]}, {1, 2}, object(), len, Paper("note", [1])):
            self.assertIs(fixed(value), value)
            self.assertIs(fixed([[value]])[0][0], value)

    def test_what_is_passed_stays(self):
        value = [1, [2], {"a": [3]}]
        told = fixed(value)
        self.assertEqual(value, [1, [2], {"a": [3]}])
        value[1].append(4)
        value.append(5)
        self.assertEqual(told, (1, (2,), {"a": [3]}))

    def test_depth(self):
        value, told = [], ()
        for _ in range(29):
            value, told = [value], (told,)
        self.assertEqual(fixed(value), told)


class PapersTest(unittest.TestCase):
    def test_word_and_parts(self):
        for made in (Paper, Denial):
            paper = made("note", 1, [2, [3]], None, {"a": [1]})
            self.assertEqual((paper.word, paper.parts), ("note", (1, (2, (3,)), None, {"a": [1]})))
            self.assertEqual((made("note").parts, made(word="note").word), ((), "note"))
            self.assertIsInstance(paper.parts, tuple)

    def test_lists_that_are_changed(self):
        part = [1, [2]]
        paper, denial = Paper("note", part), Denial("no", part)
        part[1].append(3)
        part.append(4)
        self.assertEqual((paper.parts, denial.parts), (((1, (2,)),), ((1, (2,)),)))

    def test_truth(self):
        self.assertIs(bool(Paper("note")), True)
        self.assertIs(bool(Paper("")), True)
        self.assertIs(bool(Denial("no")), False)
        self.assertIs(bool(Denial("no", 1, 2)), False)

    def test_classes(self):
        self.assertTrue(issubclass(Denial, Paper))
        self.assertIsInstance(Denial("no"), Paper)
        self.assertNotIsInstance(Paper("no"), Denial)
        for made in (Paper, Denial):
            for method in ("__init__", "__eq__", "__bool__"):
                self.assertIn(method, vars(made))

    def test_equal(self):
        for made in (Paper, Denial):
            self.assertTrue(made("note", 1, [2]) == made("note", 1, (2,)))
            self.assertFalse(made("note", 1) != made("note", 1))
            self.assertTrue(made("note", 1) == made("note", True))
            self.assertTrue(made("note", made("in", [1])) == made("note", made("in", (1,))))
            for other in (made("note", 2), made("note", 1, 2), made("note"), made("notes", 1), "note", ("note", 1), None, 1):
                self.assertFalse(made("note", 1) == other)
                self.assertTrue(made("note", 1) != other)
                self.assertFalse(other == made("note", 1))

    def test_unlike_classes(self):
        self.assertFalse(Paper("note", 1) == Denial("note", 1))
        self.assertFalse(Denial("note", 1) == Paper("note", 1))

        class Note(Paper):
            def __init__(self, text):
                super().__init__("note", text)
        self.assertFalse(Note("a") == Paper("note", "a"))
        self.assertFalse(Paper("note", "a") == Note("a"))
        self.assertTrue(Note("a") == Note("a"))
        self.assertFalse(Note("a") == Note("b"))


if __name__ == "__main__":
    unittest.main()

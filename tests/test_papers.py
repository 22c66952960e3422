"""Papers and denials."""

from nodice.papers import Denial, Paper, fixed
from tests.support import Case


class Note(Paper):
    def __init__(self, text, rows):
        Paper.__init__(self, "note", text, rows)


class Letter(Paper):
    def __init__(self, text, rows):
        Paper.__init__(self, "note", text, rows)


class Nothing(Denial):
    def __init__(self, text):
        Denial.__init__(self, "nothing", text)


class Papers(Case):
    def test_truth(self):
        self.assertIs(bool(Paper("note")), True)
        self.assertIs(bool(Paper("note", 0)), True)
        self.assertIs(bool(Paper("")), True)
        self.assertIs(bool(Denial("no")), False)
        self.assertIs(bool(Denial("no", 1, 2)), False)
        self.assertIs(bool(Note(1, [])), True)
        self.assertIs(bool(Nothing(1)), False)
        self.assertEqual(Denial.__bases__, (Paper,))

    def test_word_and_parts(self):
        for made in (Paper, Denial):
            note = made("note", [1, (2, [3])], None, "ab", {"a": [1]})
            self.assertEqual(note.word, "note")
            self.same(note.parts, ((1, (2, (3,))), None, "ab", {"a": [1]}))
            self.same(made("note").parts, ())
            self.same(made(word="note").word, "note")

    def test_equality(self):
        for made in (Paper, Denial):
            note = made("note", [1, (2, [3])])
            self.assertIs(note == made("note", (1, [2, (3,)])), True)
            self.assertIs(note != made("note", (1, [2, (3,)])), False)
            self.assertIs(note == made("other", [1, (2, [3])]), False)
            self.assertIs(note == made("note", [1, (2, [4])]), False)
            self.assertIs(note == made("note", [1, (2, [3])], 1), False)
            self.assertIs(note == made("note"), False)
            self.assertIs(made("note", 1) == made("note", True), True)
            for value in (None, "note", ("note", ((1, (2, (3,))),)), 1, [], True, False):
                self.assertIs(note == value, False)
                self.assertIs(value == note, False)
                self.assertIs(note != value, True)

    def test_unlike_classes(self):
        self.assertIs(Paper("note", 1) == Denial("note", 1), False)
        self.assertIs(Denial("note", 1) == Paper("note", 1), False)
        self.assertIs(Note(1, []) == Note(1, ()), True)
        self.assertIs(Note(1, []) == Letter(1, []), False)
        self.assertIs(Note(1, []) == Paper("note", 1, []), False)
        self.assertIs(Paper("note", 1, []) == Note(1, []), False)
        self.assertIs(Nothing(1) == Denial("nothing", 1), False)
        self.assertIs(Nothing([1]) == Nothing((1,)), True)
        self.assertIs(Nothing(1) == Nothing(2), False)

    def test_fixed(self):
        for value, wanted in (
            ([], ()), ((), ()), ([[], [1, [2, (3, [4])]]], ((), (1, (2, (3, (4,)))))), (None, None),
            (True, True), (0, 0), ("ab", "ab"), (b"ab", b"ab"), ([[], {"a": [1]}], ((), {"a": [1]})),
        ):
            self.same(fixed(value), wanted)
        for value in (None, "ab", {"a": [1]}, Paper("note"), 10 ** 50):
            self.assertIs(fixed(value), value)
            self.assertIs(fixed([value])[0], value)
        deep, wanted = 1, 1
        for _ in range(30):
            deep, wanted = [deep], (wanted,)
        self.same(fixed(value=deep), wanted)

    def test_what_was_passed_changes(self):
        inner = [3]
        outer = [1, (2, inner)]
        notes = [Paper("note", outer), Denial("note", outer)]
        kept = fixed(outer)
        inner.append(4)
        outer.append(5)
        for note in notes:
            self.same(note.parts, ((1, (2, (3,))),))
        self.same(kept, (1, (2, (3,))))

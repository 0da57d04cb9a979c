"""What the document promises over the whole program."""

import random
import unittest

from fivetrees.certificates import certify_alike, certify_constant, certify_pattern, certify_reading
from fivetrees.checker import holds
from fivetrees.console import Console
from fivetrees.deciding import alike, constant_text, enough_trees, first_change, first_unequal, first_unlike
from fivetrees.errors import LimitError, TooManyJoins
from fivetrees.keeping import Keeping
from fivetrees.longtexts import LongText
from fivetrees.modes import lean, mode_classes
from fivetrees.patterns import Pattern, first_breaking, first_keeping
from fivetrees.readings import first_reading, second_reading
from fivetrees.samples import full_writer, looking_writer, moding_writer
from fivetrees.schemas import Schema
from fivetrees.sheets import Sheet, set_tree
from fivetrees.trees import Tree, compare
from fivetrees.workshop import Workshop, attempt
from fivetrees.writers import Writer
from tests import chance, plain, plain_patterns


def answer(call, *arguments):
    """What a call returns, or which limit it meets."""
    try:
        return call(*arguments)
    except LimitError as error:
        return type(error)


class Names:
    """Other names for kinds, constructors and modes, in another order of letters."""

    def __init__(self, schema, modes):
        self.kinds = {kind: f"zyxw"[k] + "kind" for k, kind in enumerate(schema.kinds)}
        self.names = {name: "fedcba"[k] for k, name in enumerate(schema.names)}
        self.modes = {mode: "qpo"[k] for k, mode in enumerate(modes)}
        self.modes[None] = None

    def schema(self, schema):
        kinds = tuple(self.kinds[kind] for kind in schema.kinds)
        return Schema(kinds, tuple(
            (self.names[name], self.kinds[kind], tuple(self.kinds[field] for field in fields)) for name, kind, fields in schema.constructors
        ))

    def rule(self, rule):
        mode, name, looks, pieces = rule
        new_looks = tuple(look and tuple(self.names[one] for one in look) for look in looks)
        return (self.modes[mode], self.names[name], new_looks, tuple(
            piece if isinstance(piece, str) else (piece[0], self.modes[piece[1]]) for piece in pieces
        ))

    def writer(self, writer):
        rules = tuple(map(self.rule, writer.rules))
        return Writer(self.schema(writer.schema), rules, self.modes[writer.start], before=writer.before, after=writer.after)

    def tree(self, found):
        """The rows of a tree, or what else was found."""
        if not isinstance(found, Tree):
            return found
        return tuple((self.names[name], numbers) for name, numbers in found.rows)

    def state(self, state):
        return (self.names[state[0]], self.modes[state[1]], self.modes[state[2]])


def rows(found):
    return found.rows if isinstance(found, Tree) else found


def backwards(writer):
    """The writer in which all strings and all pieces stand backwards."""
    rules = []
    for mode, name, looks, pieces in writer.rules:
        rules.append((mode, name, looks, tuple(piece[::-1] if isinstance(piece, str) else piece for piece in pieces[::-1])))
    return Writer(writer.schema, tuple(rules), writer.start, before=writer.after[::-1], after=writer.before[::-1])


def pairs_of_writers(number, many):
    """Writers for the same schema, by chance."""
    source = random.Random(number)
    for _ in range(many):
        schema = chance.schema(source)
        writer = chance.writer(source, schema, "ab")
        yield source, writer, source.choice([chance.writer(source, schema, "ab"), "a" + writer, writer + "b"])


class OtherNames(unittest.TestCase):
    def test_they_change_nothing_but_the_names(self):
        for source, writer, other in pairs_of_writers(61, 120):
            modes = tuple(dict.fromkeys(writer.modes + other.modes))
            names = Names(writer.schema, modes)
            new, new_other = names.writer(writer), names.writer(other)
            for call in (first_unlike, first_unequal):
                self.assertEqual(names.tree(answer(call, writer, other)), rows(answer(call, new, new_other)))
            self.assertEqual(names.tree(answer(first_change, writer)), rows(answer(first_change, new)))
            self.assertEqual(answer(constant_text, writer), answer(constant_text, new))
            form = plain_patterns.some_pattern(source)
            pattern = Pattern(form[0], form[1], *form[2])
            for call in (first_keeping, first_breaking):
                self.assertEqual(names.tree(answer(call, writer, pattern)), rows(answer(call, new, pattern)))
            for text in ("", "a", "ab", "aab", "b"):
                for call in (first_reading, second_reading):
                    self.assertEqual(names.tree(answer(call, writer, text)), rows(answer(call, new, text)))
            self.check_kept(names, writer, other)

    def check_kept(self, names, writer, other):
        found, expected = answer(Keeping, names.writer(writer), names.writer(other)), answer(Keeping, writer, other)
        if found is TooManyJoins:
            self.assertIs(expected, TooManyJoins)
            return
        self.assertEqual((len(found), found.base), (len(expected), expected.base))
        self.assertEqual(set(found.states), set(map(names.state, expected.states)))
        for state in expected.states:
            kept = found.kept(names.state(state))
            self.assertEqual([names.tree(tree) for tree in expected.kept(state)], [tree.rows for tree in kept])
            for tree, same in zip(expected.kept(state), kept):
                self.assertEqual(expected.row(tree, state), found.row(same, names.state(state)))

    def test_modes_and_lean(self):
        for source, writer, _ in pairs_of_writers(62, 80):
            names = Names(writer.schema, writer.modes)
            new = names.writer(writer)
            for kind in writer.schema.kinds:
                found, expected = answer(mode_classes, new, names.kinds[kind]), answer(mode_classes, writer, kind)
                if found is not TooManyJoins:
                    self.assertEqual(found, tuple(tuple(names.modes[mode] for mode in known) for known in expected))
            thin = answer(lean, writer)
            if thin is not TooManyJoins:
                self.assertTrue(names.writer(thin) == lean(new))


class Backwards(unittest.TestCase):
    def test_all_texts(self):
        for source, writer, other in pairs_of_writers(63, 100):
            back, other_back = backwards(writer), backwards(other)
            self.assertTrue(backwards(back) == writer)
            for one in plain.all_trees(writer.schema, writer.schema.root, 5)[:30]:
                tree = plain.made(writer.schema, one)
                self.assertEqual(back(tree), writer(tree)[::-1])
                text = writer(tree)
                if len(text) <= 40:
                    for call in (first_reading, second_reading):
                        self.assertEqual(rows(answer(call, back, text[::-1])), rows(answer(call, writer, text)))
            for call in (first_unlike, first_unequal):
                self.assertEqual(rows(answer(call, back, other_back)), rows(answer(call, writer, other)))
            constant = answer(constant_text, writer)
            self.assertEqual(answer(constant_text, back), constant[::-1] if isinstance(constant, str) else constant)
            self.assertEqual(rows(answer(first_change, back)), rows(answer(first_change, writer)))


class OtherSigns(unittest.TestCase):
    def test_exchanged_one_for_one(self):
        table = str.maketrans("abc", "~ \n")
        signs = (("a", "~"), ("b", " "), ("c", "\n"))
        for source, writer, other in pairs_of_writers(64, 100):
            new, new_other = writer.spelled(signs), other.spelled(signs)
            for one in plain.all_trees(writer.schema, writer.schema.root, 5)[:20]:
                tree = plain.made(writer.schema, one)
                self.assertEqual(new(tree), writer(tree).translate(table))
                if len(writer(tree)) <= 40:
                    self.assertEqual(rows(answer(first_reading, new, new(tree))), rows(answer(first_reading, writer, writer(tree))))
            for call in (first_unlike, first_unequal):
                self.assertEqual(rows(answer(call, new, new_other)), rows(answer(call, writer, other)))
            form = plain_patterns.some_pattern(source)
            moves = tuple((one, moved and moved.translate(table), other_stand) for one, moved, other_stand in form[2])
            for call in (first_keeping, first_breaking):
                found = answer(call, new, Pattern(form[0], form[1], *moves))
                self.assertEqual(rows(found), rows(answer(call, writer, Pattern(form[0], form[1], *form[2]))))


class Together(unittest.TestCase):
    """What one part of the program returns, another one takes."""

    def test_decided_and_enough(self):
        for source, writer, other in pairs_of_writers(65, 100):
            tree = answer(first_unlike, writer, other)
            if tree is TooManyJoins:
                continue
            known = enough_trees(writer, other)
            self.assertLessEqual(len(known), 5 * len(writer.schema.of_kind(writer.schema.root)))
            self.assertEqual(tree is None, all(writer(one) == other(one) for one in known))
            self.assertIs(alike(writer, other), tree is None)
            self.assertEqual([compare(one, next_one) for one, next_one in zip(known, known[1:])], [-1] * (len(known) - 1))
            small = plain.all_trees(writer.schema, writer.schema.root, 5)
            unlike = [one for one in small if plain.whole(writer, one) != plain.whole(other, one)]
            if unlike:
                self.assertEqual(plain.plain(tree), unlike[0])

    def test_the_guard(self):
        for source, writer, _ in pairs_of_writers(66, 40):
            shop = Workshop(writer)
            for _ in range(12):
                index = source.randint(0, len(shop.writer.rules))
                name = source.choice(writer.schema.names)
                deed = source.choice([
                    ("drop", index), ("lean",), ("using", name, source.choice(writer.schema.names)), ("exchange", name, 0, 1),
                    ("put", index, source.choice(shop.writer.rules)),
                ])
                try:
                    shop.do(deed)
                except (ValueError, LookupError, ArithmeticError):
                    continue
            for one in plain.all_trees(writer.schema, writer.schema.root, 5)[:60]:
                self.assertEqual(plain.whole(shop.writer, one), plain.whole(writer, one))
            if shop.log:
                # The same deeds on the same writer once more.
                again = Workshop(Writer.of_form(writer.form))
                again.do_all(*shop.log)
                self.assertTrue(again.writer == shop.writer)
                claim, certificate = certify_alike(again.writer, shop.first)
                self.assertEqual((claim[0], holds(claim, certificate)), ("alike", True))

    def test_one_after_the_other(self):
        looking, full = looking_writer(), full_writer()
        tree = second_reading(looking, "1+1+1*1")
        claim, found = certify_reading(full, full(tree))
        self.assertEqual(found, tree.rows)
        sheet = Sheet(full, Tree.of_rows(full.schema, found))
        place, count, text = set_tree(sheet, (1,), first_unlike(looking, full))
        self.assertEqual(sheet.text, full(tree)[:place] + text + full(tree)[place + count:])
        self.assertEqual(LongText(full, sheet.tree).piece(0, len(sheet.text)), sheet.text)
        lines = Console(lean(Writer.of_form(claim[1])), moding_writer())
        self.assertEqual(lines.say(f"write 0 {sheet.tree}"), sheet.text)
        self.assertEqual(lines.say("read 0 " + sheet.text), str(sheet.tree))
        shop = Workshop(moding_writer())
        attempt(shop, lambda same: same.do(("put", 0, shop.writer.rules[0])))
        self.assertEqual(lines.say("first 1 0"), str(first_unlike(shop.writer, full)))
        pattern = Pattern.without(sheet.text[:2])
        claim, certificate = certify_pattern(full, pattern)
        self.assertEqual((claim[0], certificate), ("not always", first_breaking(full, pattern).rows))
        self.assertTrue(Pattern(claim[2][0], claim[2][1], *claim[2][2]) == pattern)

    def test_what_is_passed_is_not_changed(self):
        writer, other = looking_writer(), moding_writer()
        forms = (writer.form, other.form)
        pattern = Pattern.without("+*")
        form = pattern.form
        for _ in range(2):
            self.assertIs(alike(writer, other), True)
            told = certify_alike(writer, other)
            self.assertEqual(told, certify_alike(writer, other))
            self.assertIs(holds(*told), True)
            self.assertEqual(certify_pattern(writer, pattern), certify_pattern(writer, ~~pattern))
            self.assertIs(certify_constant(writer), None)
        self.assertEqual(((writer.form, other.form), pattern.form), (forms, form))


if __name__ == "__main__":
    unittest.main()

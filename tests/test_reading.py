import unittest

from endsmeet.errors import BadSheet, BadText
from endsmeet.reading import read_recipe
from endsmeet.recipes import is_recipe
from endsmeet.sheets import Sheet
from tests.recipe_support import XYZ, random_recipe
from tests.support import ABC, seeded

SHEET = Sheet(ABC, dict(XYZ, cap=('a',), tee=('a', 'b', 'c'), box=('c', 'c', 'c', 'c'), longname=('b', 'a')))
X, Y, Z, BACK = ('block', 'x', 0), ('block', 'y', 0), ('block', 'z', 0), ('block', 'x', 1)


def wide_text(rnd, recipe):
    """A text of a recipe with blanks, line feeds and parentheses wherever they may be."""

    def blank():
        return rnd.choice(('', '', ' ', '  ', '\n', ' \n '))

    def told(recipe, inside):
        form = recipe[0]
        if form == 'block':
            text = '~' + blank() + recipe[1] if recipe[2] else recipe[1]
        elif form == 'turned':
            text = '~' + blank() + '(' + blank() + told(recipe[1], None) + blank() + ')'
        elif form == 'row':
            parts = [told(part, 'row') for part in recipe[1]]
            text = parts[0]
            for part in parts[1:]:
                text += (blank() if text.endswith((')', '}', '*', '+', '?')) else rnd.choice((' ', '\n', '  '))) + part
        elif form == 'either':
            text = (blank() + '|' + blank()).join(told(part, 'either') for part in recipe[1])
        else:
            low, high = recipe[2:]
            choices = ['{%d..}' % low] if high is None else ['{%d..%d}' % (low, high)]
            if low == high:
                choices.append('{%d}' % low)
            choices.extend({(0, None): '*', (1, None): '+', (0, 1): '?'}.get((low, high), ''))
            sign = rnd.choice(choices)
            for part in ('{', '..', '}'):
                sign = sign.replace(part, blank() + part + blank())
            text = told(recipe[1], 'times') + blank() + sign.strip() + ''
        needs = {'row': ('row', 'either'), 'either': ('either',), 'times': ('row', 'either', 'times')}.get(inside, ())
        while form in needs or rnd.random() < 0.15:
            text = '(' + blank() + text + blank() + ')'
            form = None
        return text

    return blank() + told(recipe, None) + blank()


class ReadRecipe(unittest.TestCase):
    def bad(self, told, line, column):
        with self.assertRaises(BadText, msg=repr(told)) as caught:
            read_recipe(SHEET, told)
        self.assertEqual((caught.exception.line, caught.exception.column), (line, column), repr(told))

    def test_ordinary(self):
        for told, recipe in (
            ('x', X), ('~x', BACK), ('x y', ('row', (X, Y))), ('x|y', ('either', (X, Y))), ('~(x)', ('turned', X)),
            ('(x)', X), ('((x))', X), ('x*', ('times', X, 0, None)), ('~x*', ('times', BACK, 0, None)),
            ('~(x)*', ('times', ('turned', X), 0, None)), ('~(x*)', ('turned', ('times', X, 0, None))),
            ('x y*', ('row', (X, ('times', Y, 0, None)))), ('(x y)*', ('times', ('row', (X, Y)), 0, None)),
            ('x y | z', ('either', (('row', (X, Y)), Z))), ('x (y | z)', ('row', (X, ('either', (Y, Z))))),
            ('(x y) z', ('row', (('row', (X, Y)), Z))), ('x y z', ('row', (X, Y, Z))),
            ('(x|y)|z', ('either', (('either', (X, Y)), Z))), ('x|y|z', ('either', (X, Y, Z))),
            ('x+ y?', ('row', (('times', X, 1, None), ('times', Y, 0, 1)))), ('longname', ('block', 'longname', 0)),
            ('x{2..3}', ('times', X, 2, 3)), ('x{2..}', ('times', X, 2, None)), ('x{2}', ('times', X, 2, 2)),
            ('x{0..}', ('times', X, 0, None)), ('x{1..}', ('times', X, 1, None)), ('x{0..1}', ('times', X, 0, 1)),
            ('x{20}', ('times', X, 20, 20)), ('x{20..}', ('times', X, 20, None)), ('x{0..20}', ('times', X, 0, 20)),
            ('(x*)*', ('times', ('times', X, 0, None), 0, None)), ('((x)*)', ('times', X, 0, None)),
            ('x*y', ('row', (('times', X, 0, None), Y))), ('x(y)', ('row', (X, Y))), ('(x)y', ('row', (X, Y))),
            ('x~x', ('row', (X, BACK))), ('~\n(x\ny)', ('turned', ('row', (X, Y)))),
            ('x {\n2 ..\n 3 }', ('times', X, 2, 3)), ('\n x \n', X), ('~ x', BACK), ('(~x)', BACK), ('x{2..2}', (
                'times', X, 2, 2)),
        ):
            self.assertEqual(read_recipe(SHEET, told), recipe, told)

    def test_more_blanks_and_parentheses(self):
        rnd = seeded(120)
        read = 0
        for _ in range(800):
            recipe = random_recipe(rnd, SHEET, rnd.randint(1, 5), rnd.choice((1, 3, 20)))
            if is_recipe(SHEET, recipe):
                told = wide_text(rnd, recipe)
                self.assertEqual(read_recipe(SHEET, told), recipe, told)
                read += 1
        self.assertGreater(read, 400)

    def test_signs_that_are_no_part_of_any_word(self):
        for told, line, column in (
            ('!', 1, 1), ('x !', 1, 3), ('x\n!', 2, 1), ('x\n\n  ! %', 3, 3), ('x X', 1, 3), ('\tx', 1, 1),
            ('x\r\ny', 1, 2), ('x . y', 1, 3), ('x{2.3}', 1, 4), ('x{2...3}', 1, 6), ('x{2. .3}', 1, 4), ('\u00e4', 1, 1),
            ('x\u00a0y', 1, 2), ('x-y', 1, 2), ('x,y', 1, 2), ('x_y', 1, 2), ('x[2]', 1, 2), ('.', 1, 1), ('x{2.\n.3}', 1, 4),
            # Such a sign comes before any word that cannot stand where it stands.
            (') x\n ) !', 2, 4), ('what ( | #', 1, 10), ('x{0} {0}\n .', 2, 2), ('(((\n&', 2, 1), ('x{99}...', 1, 8),
        ):
            self.bad(told, line, column)

    def test_points(self):
        # The first two of several points are one word.
        self.bad('x ....', 1, 3)
        self.bad('x ...', 1, 5)
        self.bad('x{2....3}', 1, 6)
        self.bad('x .. y', 1, 3)

    def test_words_that_cannot_stand(self):
        for told, column in (
            ('what', 1), ('x what', 3), ('cap', 1), ('x tee', 3), ('box', 1), ('xx', 1), ('longnames', 1), ('~y', 2),
            ('~ z', 3), ('x ~y', 4), ('~what', 2), ('~cap', 2), ('|', 1), ('x | | y', 5), ('x || y', 4), (')', 1),
            ('x )', 3), ('()', 2), ('(x | )', 6), ('( | x)', 3), ('(x))', 4), ('x (y) )', 7), ('*', 1), ('x | *', 5),
            ('(*)', 2), ('x**', 3), ('x*+', 3), ('x+?', 3), ('x?{2}', 3), ('x{2}*', 5), ('x{2}{3}', 5), ('~~x', 2),
            ('~|x', 2), ('~)', 2), ('~*', 2), ('~{2}', 2), ('~2', 2), ('5', 1), ('x5', 2), ('x 5', 3), ('5x', 1), ('..', 1),
            ('x..y', 2), ('{2}', 1), ('x}', 2), ('x{}', 3), ('x{x}', 3), ('x{..3}', 3), ('x{2 3}', 5), ('x{2..3..4}', 7),
            ('x{2..x}', 6), ('x{2..*}', 6), ('x{2)', 4), ('x{2..)', 6), ('x{2..3)', 7), ('x{2*}', 4), ('x{~2}', 3),
            ('(x | y', 7), ('x{2..3 4}', 8),
        ):
            self.bad(told, 1, column)
            self.bad('\n ' + told, 2, column + 1)

    def test_numbers(self):
        for told, column in (
            ('x{0}', 3), ('x{0 }', 3), ('x{0', 3), ('x{0*', 3), ('x{0 3}', 3), ('x{21}', 3), ('x{21..}', 3),
            ('x{0..0}', 6), ('x{0..21}', 6), ('x{3..2}', 6), ('x{2..1}', 6), ('x{1..0}', 6), ('x{5..100}', 6),
            ('x{00}', 3), ('x{00..}', 3), ('x{02}', 3), ('x{02..3}', 3), ('x{2..03}', 6), ('x{2..00}', 6), ('x{020}', 3),
            ('x{' + '9' * 6000 + '}', 3), ('x{2..' + '1' * 6000 + '}', 6), ('x{100}', 3), ('x{20..19}', 7),
        ):
            self.bad(told, 1, column)

    def test_ends_too_early(self):
        for told, line, column in (
            ('', 1, 1), (' ', 1, 2), ('\n', 2, 1), (' \n ', 2, 2), ('(', 1, 2), ('(x', 1, 3), ('(x ', 1, 4), ('(x\n', 2, 1),
            ('~', 1, 2), ('x ~', 1, 4), ('~(', 1, 3), ('x |', 1, 4), ('x | ', 1, 5), ('x |\n\n  ', 3, 3), ('x{', 1, 3),
            ('x{2', 1, 4), ('x{2..', 1, 6), ('x{2..3', 1, 7), ('x{0..', 1, 6), ('(x y', 1, 5), ('((x)', 1, 5), ('(x |', 1, 5),
            ('(x*', 1, 4), ('x{2 \n', 2, 1),
        ):
            self.bad(told, line, column)

    def test_parentheses_within_one_another(self):
        self.assertEqual(read_recipe(SHEET, '(' * 100 + 'x' + ')' * 100), X)
        self.bad('(' * 101 + 'x' + ')' * 101, 1, 101)
        self.bad('(' * 101, 1, 101)
        self.bad('(' * 100, 1, 101)
        self.bad('\n'.join('(' * 101), 101, 1)
        self.bad('x' + ' (' * 150, 1, 203)
        self.assertEqual(
            read_recipe(SHEET, '(x)' * 150 + '(' * 50 + 'x' + ')' * 50), ('row', (X,) * 151),
        )
        self.bad('~(' * 100 + 'x' + ')' * 100, 0, 0)
        self.bad('~(' * 101 + 'x' + ')' * 101, 1, 202)
        self.bad('(x*' * 100, 1, 301)
        self.bad('~(y | x ' * 100 + 'x' + ')*' * 100, 0, 0)

    def test_depths(self):
        recipe = X
        for _ in range(39):
            recipe = ('turned', recipe)
        self.assertEqual(read_recipe(SHEET, '~(' * 39 + 'x' + ')' * 39), recipe)
        self.bad('~(' * 40 + 'x' + ')' * 40, 0, 0)
        self.bad('(' * 39 + 'x' + '*)' * 39 + '*', 0, 0)
        self.bad('~(' * 40 + 'x' + ')' * 39, 1, 121)

    def test_sizes(self):
        self.assertEqual(read_recipe(SHEET, 'x ' * 200), ('row', (X,) * 200))
        self.assertEqual(read_recipe(SHEET, '(' + 'x ' * 10 + '){20}'), ('times', ('row', (X,) * 10), 20, 20))
        for told in ('x ' * 201, '|'.join('x' * 201), '(' + 'x ' * 10 + '){20..}', '(' + 'x ' * 11 + '){19}', 'x ' * 30000):
            self.bad(told, 0, 0)
        # What does not fit is found first.
        self.bad('x ' * 201 + ')', 1, 403)
        self.bad('x ' * 201 + '(', 1, 404)
        self.bad('x ' * 201 + '\n!', 2, 1)

    def test_no_string(self):
        for bad in (None, 5, [], ['x'], X, b'x', True):
            self.bad(bad, 0, 0)

    def test_bad_sheet(self):
        for bad in (None, {}, 'x'):
            for told in ('x', '(', None):
                with self.assertRaises(BadSheet):
                    read_recipe(bad, told)

"""BadText tells the first token with which no text goes on: DOC.md [23], against the rules of the document."""

import unittest

from treequill.nodes import is_tree
from treequill.reading import parse

from grammar import Speaker, place_of_error
from helping import refused

PROGRAMS = (
    "a = b = c, *d; e.f[g:h, ::i] += yield j\n",
    "def f(a, /, b: c, d=1, *e, f, g: h=2, **i) -> j:\n  return a if b else lambda k, *, l=m: n\n",
    "@a.b(c, *d, e=f, **g)\nasync def f(): await h; yield from i\n",
    "class A(b, *c, d=e): pass;\n",
    "for a, *b.c in d, e:\n  if f := g: break\n  elif h: continue\n  else: i\nelse:\n  j\n",
    "try: a\nexcept b as c:\n  raise d from e\nexcept: f\nelse: assert g, h\nfinally:\n  del i, (j, [k])\n",
    "with (a as b, c): d\nwith (a, b) as c, d: e\nasync with (a := b, c): d\nwith (a).b as c: d\n",
    "match a, *b:\n  case {'c': d, -1: e, **f} | [g, *_] if h: i\n  case A(j, k=l as m) | (n, o) | 1 + 2j: p\nmatch [a]\nmatch.b: c\n",
    "while not a < b is not c not in d and e or f: g\n",
    "x = [a for b, c in d if e if f async for g in h], {i: j for k in l}, {m, *n}, {o: p, **q}, (r for s in t)\n",
    "f(a for b in c)(d, e := f, g=h, *i, **j)[k, *l, m:n:o].p\n",
    "from ..a.b import (c as d, e,)\nimport f.g as h, i\nfrom j import *\nglobal k, l\nnonlocal m\n",
    "x = f'a{b!r:>{c}}{{' 'd' f'{e:}' \\\n  rf'''\n{(lambda: f)}''', b'g' rb'h', -i ** -j, ~k @ l // m << n\n",
    "(a): b = c\nd.e: f\nreturn *g, h\nraise\nif a:\n b\n if c:\n  d\n e\n",
)
EXCHANGES = ("=", ",", ":", "(", ")", "*", "as", "for", "in", "a", "1", "'s'", ":=", "**", "if", "\n", ".", "not",
    "]", "yield")


def cuts(text):
    """Return the places between the characters of a text at which a token may begin or end."""
    return [at for at in range(len(text) + 1) if at in (0,
        len(text)) or not (text[at - 1:at + 1].isidentifier() and text[at:at + 1].isalnum())]


class RefusedTest(unittest.TestCase):
    def assert_same(self, text, mode="exec"):
        self.assertEqual(refused(text, mode), place_of_error(text, mode), (mode, text))

    def test_whole_programs(self):
        for text in PROGRAMS:
            self.assertIsNone(refused(text), text)
            self.assertIsNone(place_of_error(text), text)
            self.assertTrue(is_tree(parse(text)), text)

    def test_texts_that_are_cut_off(self):
        for text in PROGRAMS:
            for at in cuts(text):
                self.assert_same(text[:at])

    def test_texts_with_a_token_left_out(self):
        for text in PROGRAMS:
            places = cuts(text)
            for begin, end in zip(places, places[1:]):
                self.assert_same(text[:begin] + text[end:])

    def test_texts_with_a_token_put_in_or_exchanged(self):
        speaker = Speaker(2)
        for text in PROGRAMS:
            places = cuts(text)
            for begin, end in zip(places, places[1:]):
                other = speaker.chance.choice(EXCHANGES)
                self.assert_same(f"{text[:begin]} {other} {text[begin:]}")
                self.assert_same(f"{text[:begin]} {other} {text[end:]}")

    def test_random_texts(self):
        speaker = Speaker(3)
        for start, many in (("program", 120), ("simple", 60), ("match", 60), ("with", 60), ("fstring", 40),
            ("def", 40), ("primary", 60), ("braces", 40), ("tgt_listing", 40), ("try", 30), ("class", 30)):
            for _ in range(many):
                words = speaker.words(start, speaker.chance.randint(1, 50))
                if start != "program":
                    words += ["NEWLINE", "END"]
                self.assert_same(speaker.text(words))
                for _ in range(2):
                    self.assert_same(speaker.text(speaker.spoil(words)))

    def test_random_texts_in_the_mode_eval(self):
        speaker = Speaker(5)
        for _ in range(150):
            words = speaker.words("eval", speaker.chance.randint(1, 40))
            self.assert_same(speaker.text(words), "eval")
            for _ in range(2):
                self.assert_same(speaker.text(speaker.spoil(words)), "eval")


if __name__ == "__main__":
    unittest.main()

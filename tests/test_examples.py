"""The examples of the document, as it has them."""

import doctest
import unittest

EXAMPLES = {
    "the head": r"""
>>> from remoteviews.client import View
>>> from remoteviews.server import Server
>>> server = Server("shop", 'layers main\nshared stock = 2\ncomponent page(me)\n  element row\n    on buy(x)\n      expect stock\n      set stock = sub(stock, 1)\n    text stock')
>>> view = View("shop", server.connect())
>>> other = View("shop", server.connect())
>>> view.receive(server.update(1)), other.receive(server.update(2))
('applied', 'applied')
>>> view.queue(6, "buy", ("none",)), other.queue(6, "buy", ("none",))
(1, 1)
>>> server.receive(other.report()), server.receive(view.report())
(['applied'], ['conflict'])
>>> view.receive(server.update(1)), view.outcomes(), view.tree()
('applied', ['conflict'], (('layer', 1, 'main', (('element', 5, 'row', (), (('text', 6, '1'),)),)),))
""",
    "signs": r"""
>>> from remoteviews.signs import split_line, write_signs
>>> split_line('set n = add( n,12)')
[('name', 'set'), ('name', 'n'), ('mark', '='), ('name', 'add'), ('mark', '('), ('name', 'n'), ('mark', ','), ('number', 12), ('mark', ')')]
>>> write_signs(split_line('set n = add( n,12)'))
'set n = add(n, 12)'
>>> split_line('a 12b')
Traceback (most recent call last):
    ...
remoteviews.errors.BadSigns: 2
""",
    "evaluation": r"""
>>> from remoteviews.evaluation import evaluate
>>> from remoteviews.expressions import read_expression
>>> from remoteviews.signs import split_line
>>> evaluate(read_expression(split_line('add(n, 1)'), 0)[0], {"n": ("int", 3)}, (), {})
('value', ('int', 4))
>>> evaluate(read_expression(split_line('and(false, resource("x"))'), 0)[0], {}, (), {})
('value', ('bool', False))
>>> evaluate(read_expression(split_line('concat(sub(1, 2), resource("x"))'), 0)[0], {}, (), {})
('error', 'integer underflow')
>>> evaluate(read_expression(split_line('concat(resource("x"), sub(1, 2))'), 0)[0], {}, (), {})
('waits', 'x')
""",
    "trees": r"""
>>> from remoteviews.trees import apply_patch
>>> apply_patch((), (("layer", 1, "main"), ("element", 5, 1, 0, "row"), ("text", 6, 5, 0, "tea"), ("attr", 5, "tone", ("int", 1))))
(('layer', 1, 'main', (('element', 5, 'row', (('tone', ('int', 1)),), (('text', 6, 'tea'),)),)),)
""",
    "diffs": r"""
>>> from remoteviews.diffs import staying
>>> staying((3, 0, 1, 2)), staying((1, 0, 3, 2))
([1, 2, 3], [0, 2])
""",
    "messages": r"""
>>> from remoteviews.messages import read_report, write_update
>>> write_update(("shop", 1, 0, 1, 1, (), (("layer", 1, "main"), ("text", 5, 1, 0, "hi"))))
'update shop 1 from 0 to 1 outcomes 1\nlayer 1 main\ntext 5 in 1 after 0 "hi"\nend'
>>> read_report("events shop 1 version 1\nevent 1 version 1 node 5 buy none\nend")
('shop', 1, 1, ((1, 1, 5, 'buy', ('none',)),))
""",
    "rendering": r"""
>>> from remoteviews.rendering import render
>>> from remoteviews.templates import parse_template
>>> template = parse_template('layers main\ncomponent page(me)\n  element row\n    text "hi"')
>>> told = render(template, 1, {}, {}, ())
>>> told[0], [node[:4] for node in told[1]], told[2], told[3]
('drawn', [('element', ((0, ''),), (), 'row'), ('text', ((1, ''),), (), 'hi')], (((), 0, 'page', ()),), ())
""",
    "server": r"""
>>> from remoteviews.server import Server
>>> server = Server("shop", 'layers main\nshared n = 1\ncomponent page(me)\n  element row\n    on buy(x)\n      expect n\n      set n = add(n, 1)\n    text n')
>>> server.connect(), server.update(1)
(1, 'update shop 1 from 0 to 1 outcomes 1\nlayer 1 main\nelement 5 in 1 after 0 row\ntext 6 in 5 after 0 "1"\nend')
>>> server.dispatch(1, 6, "buy", ("none",)), server.receive("events shop 1 version 1\nevent 1 version 1 node 6 buy none\nend")
('applied', ['conflict'])
>>> server.update(1)
'update shop 1 from 1 to 2 outcomes 1 conflict\ncontent 6 "2"\nend'
>>> server.log()[1:]
['connect', 'event 1 0 5 buy none', 'discard 1 1 conflict']
""",
}


class Examples(unittest.TestCase):
    def test_examples(self):
        parser = doctest.DocTestParser()
        for name, text in EXAMPLES.items():
            with self.subTest(name):
                told = []
                test = parser.get_doctest(text, {}, name, None, 0)
                self.assertGreater(len(test.examples), 1)
                found = doctest.DocTestRunner(optionflags=doctest.IGNORE_EXCEPTION_DETAIL).run(test, out=told.append)
                self.assertEqual(found.failed, 0, "".join(told))


if __name__ == "__main__":
    unittest.main()

"""Tests of the package as a whole: its interface and the form of its files."""

import ast
import importlib
import inspect
import pathlib
import unittest

PACKAGE = pathlib.Path(__file__).resolve().parent.parent / 'somerows'
FILES = sorted(PACKAGE.rglob('*.py'))
INTERFACE = {
    'cases': ['is_case(value)', 'value_passes(case, value)', 'pair_passes(case, kind, value)'],
    'sources': ['is_source(case, value)', 'child_passes(case, source)', 'wished(case, source)',
                'commits(case, source)', 'after_commit(source, commit)'],
    'plans': ['is_plan(value)', 'all_plans(lanes, late, anew)'],
    'messages': ['messages_of(case, plan, source, commit)'],
    'copies': ['is_copy(case, value)', 'received(case, plan, copy, message)'],
    'standings': ['beginning(case, plan)', 'is_standing(case, plan, value)',
                  'steps(case, plan, standing)', 'after(case, plan, standing, step)'],
    'faults': ['is_words(value)', 'faults(case, standing)'],
    'tables': ['find_table(case, plan, words)', 'find_history(case, plan, words)',
               'is_table(case, plan, words, value)', 'is_history(case, plan, words, value)'],
    'layers': ['find_layers(case, plan, words)', 'fewest_steps(case, plan, words)',
               'is_layers(case, plan, words, number, value)'],
    'offers': ['is_offer(value)', 'cost_of(prices, plan)', 'priced(lanes, late, anew, prices)',
               'is_sound(case, plan, words)', 'safe_words(case, plan)',
               'cheapest_plan(case, offer, words)', 'find_book(case, offer, words)',
               'is_book(case, offer, words, cost, value)'],
    'pairs': ['pair_beginning(case, first, second)', 'pair_steps(case, first, second, standing)',
              'after_pair(case, first, second, standing, step)', 'are_alike(case, first, second)',
              'find_pair_table(case, first, second)', 'find_parting(case, first, second)',
              'is_pair_table(case, first, second, value)',
              'is_parting(case, first, second, value)', 'alike_groups(case, plans)'],
    'sights': ['sight_of(standing)', 'is_sight(case, plan, value)', 'is_path(case, plan, value)',
               'watch_of(case, plan, path)', 'possible_sources(case, plan, sight)',
               'find_path(case, plan, sight, source)', 'sure_rows(case, plan, sight)',
               'sources_after(case, plan, watch)'],
    'mendings': ['outcomes(case, plan, standing)', 'settles(case, plan, standing)',
                 'find_mending(case, plan, standing)', 'find_hopeless(case, plan, standing)',
                 'is_mending(case, plan, standing, value)',
                 'is_hopeless(case, plan, standing, value)'],
    'feedlogs': ['feed_log(feed)', 'first_feed_fault(case, plan, c, value)',
                 'is_feed_log(case, plan, c, value)', 'history_of(case, plan, c, log, k)'],
    'papers': ['text_of_plan(plan)', 'text_of_case(case)', 'read_plan(text)', 'read_case(text)'],
}


class Interface(unittest.TestCase):
    def test_each_function_stands_in_its_file_with_its_parameters(self):
        for file, entries in INTERFACE.items():
            module = importlib.import_module('somerows.' + file)
            for entry in entries:
                name = entry.partition('(')[0]
                function = getattr(module, name)
                self.assertEqual(name + str(inspect.signature(function)), entry)
                self.assertEqual(function.__module__, 'somerows.' + file)


class Form(unittest.TestCase):
    def test_the_folder_holds_files_of_python_alone(self):
        others = [path for path in PACKAGE.rglob('*')
                  if path.is_file() and path.suffix != '.py' and path.parent.name != '__pycache__']
        self.assertEqual(others, [])
        self.assertIn(PACKAGE / '__init__.py', FILES)

    def test_lines_and_characters(self):
        for path in FILES:
            text = path.read_text(encoding='utf-8')
            lines = text.splitlines()
            self.assertLessEqual(len(lines), 399, path)
            self.assertLessEqual(max(map(len, lines)), 120, path)
            self.assertEqual([sign for sign in text if sign != '\n' and not ' ' <= sign <= '~'], [])

    def test_no_function_is_long(self):
        for path in FILES:
            for node in ast.walk(ast.parse(path.read_text(encoding='utf-8'))):
                if isinstance(node, ast.FunctionDef):
                    length = node.end_lineno - node.lineno + 1
                    self.assertLessEqual(length, 40, (path, node.name))

    def test_imports_are_from_the_package_alone(self):
        for path in FILES:
            for node in ast.walk(ast.parse(path.read_text(encoding='utf-8'))):
                self.assertNotIsInstance(node, ast.Import, path)
                if isinstance(node, ast.ImportFrom):
                    self.assertEqual((node.level, node.module.partition('.')[0]), (0, 'somerows'))


if __name__ == '__main__':
    unittest.main()

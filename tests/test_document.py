"""The examples of the document and of README.md, and the interface: every name with its arguments."""

import ast
import builtins
import doctest
import importlib
import inspect
import io
import unittest
from contextlib import redirect_stdout
from pathlib import Path

from steprows.crowds import Crowd
from steprows.webs import Web

EXAMPLES = Path(__file__).resolve().parent / "examples.txt"
README = Path(__file__).resolve().parent.parent / "README.md"
FOLDER = Path(__file__).resolve().parent.parent / "steprows"

# For each module its functions, and its classes with their methods, properties and arguments.
INTERFACE = {
    "ratios": """
        Ratio(top, bottom=1) lowest(top, bottom) over(other) inverse() to_power(number) told()
        ratio_of(thing) whole(row)
    """,
    "webs": """
        Web(size, ties) row(size) ring(size) star(size) full(size) along number_of(u, v) near(place)
    """,
    "shapes": """
        shape(web) non_ties(web) pieces(web) is_join(web) is_tree(web) is_star(web) is_loose(web) rounds(web)
        loose_by(web, u, v)
    """,
    "crowds": """
        Crowd(counts) many roomy bears(row) fewer(kind)
        crowd_of(*counts) words_of(crowd) words_in(crowd) check_word(crowd, word) spot_of(crowd, word)
        exchanged(word, u, v) unlike_pairs(crowd)
    """,
    "runs": """
        Run(web, kinds, rates) level(web, kinds) filled rate(u, v, a, b) lean(u, v, a, b)
        moves(run, crowd, word)
    """,
    "walks": """
        is_walk(web, words) six_walk(web, word, places) round_walk(web, word, ring, *, turned=False)
        square(web, word, tie, other_tie) led(web, crowd, word, other)
    """,
    "tables": """
        RatioTable(web, kinds, entries) even(web, kinds) flat at(u, v, a, b) turn(u, v, a, b, c) inverse()
        table_of(web, kinds, uppers) product_of(table, words)
    """,
    "rounds": """
        round_product(table, ring, a, b) turns_product(table, crowd, u, v, a, b) turns_agree(table)
        is_kept(table, crowd) broken(table, crowd)
    """,
    "shares": """
        Shares(crowd, weights) even(crowd) at_place(u, a) at_two(u, a, v, b) ratio_at(word, u, v)
        local_shares(table, crowd) table_in(web, shares)
    """,
    "forms": """
        Form(web, crowd) weight(word) laid() table() value(word)
        ProductForm(web, crowd, spots) value(word)
        OrderForm(web, crowd, spots, orders) value(word)
        form_of(table, crowd) rescaled(form, by_place, by_kind)
    """,
    "free": """
        free_numbers(web, crowd) free_table(web, crowd, numbers) free_of(table, crowd) all_local(crowd)
        spread_to(table, crowd, u, v)
    """,
    "standing": """
        table_of_run(run) stands(run, crowd) standing_shares(run, crowd) uneven_walk(run, crowd) walk_rates(run, words)
        excess(run, shares, word) is_lasting(run, shares) is_standing(run, shares) ties_off(run, shares)
        quickened(run, u, v, number=2) standing_run(table, speeds) speeds_of(run, table) paced(run, factors)
    """,
    "arrows": """
        Arrows(web, arrows, rates) as_run() ratio(a, b) levels() is_one_way()
        arrow_case(arrows, crowd) arrow_shares(arrows, crowd) kind_round(arrows, crowd, a)
    """,
    "pairs": """
        PairSum(size, kinds, tables) nothing(size, kinds) at(u, v, a, b) __call__(word)
        of_places(size, kinds, spots)
    """,
    "small": """
        three_sum(pairs, places, kinds) four_sum(pairs, places, kinds) one_mean(pairs, crowd, u, a)
        is_single(pairs, crowd) singles(pairs, crowd) vanishes(pairs, crowd) small_fault(pairs, crowd)
    """,
    "lasting": "flow_function(run, table) lasts(run, table, crowd) flow_fault(run, table, crowd)",
    "telling": "tells(crowd, number) place_sums(crowd, numbers, places) untold(crowd, number)",
    "solving": "lasting_shares(run, crowd)",
    "backs": """
        back_rate(run, shares, word, u, v) backwards(run, crowd) back_fault(run, crowd) backwards_by(run, table, crowd)
        mean_run(run, other)
    """,
    "splits": """
        Split(run, table) still as_run() pushed(number) ends()
        turns_back(web, table, turning) joined_split(standing, turning)
    """,
    "leans": """
        Lean(size, kinds, tables) nothing(size, kinds) at(u, v, a, b)
        lean_of(run) is_on(lean, web) run_of(web, lean, *, level=1) as_pairs(lean)
    """,
    "parts": "place_parts(lean) kind_parts(lean, crowd) four_parts(lean, crowd)",
    "evens": """
        turn_sum(lean, places, kinds) all_sum(lean, crowd, u, a) is_even(run, crowd) even_fault(run, crowd)
        even_always(run)
    """,
    "ways": """
        circulations(web) balanced(crowd) even_ways(web, crowd) even_base(web, crowd) always_stands(web, kinds)
        standless(web, crowd)
    """,
    "onetable": """
        OneTable(web, speeds, rates) as_run()
        four_cases(one, crowd) across(one) read_across(word)
    """,
    "flows": """
        kind_flow(run, crowd, a) share_flow(run, shares, u, v, a) run_of_flows(web, crowd, flows)
        moves_none(run, crowd) turning_run(web, crowd)
    """,
    "levels": """
        tie_sort(run, table, u, v, a, b) tie_steps(run, table, u, v) lasts_loose(run, table, crowd)
        loose_fault(run, table, crowd) no_flow(run, table, crowd) flow_pieces(run, table)
    """,
    "lots": """
        check_lot(kinds, lot) check_parting(kinds, parting) all_partings(kinds) is_joinable(run, lot)
        joinable_lots(run)
    """,
    "classes": """
        Classes(crowd, parting, leans, ratios) class_of(a) value(word, line) only(lot, word)
        classes_run(web, classes, speeds) class_table(web, classes) balanced_ratios(crowd, lot)
    """,
    "rings": "classes_of(run, crowd) ring_word(run, crowd) quad_products(run)",
    "joins": """
        joins(run, parting) joining(run) joined_run(run, parting) joined_crowd(crowd, parting)
        joined_word(parting, word) joined_shares(shares, parting)
    """,
    "spread": """
        spread_sums(run, crowd, lot) spreads(run, crowd, lot) spread_fault(run, crowd, lot) is_spread(shares, lot)
    """,
    "cuts": """
        two_rates(web, kinds, *, ahead, behind) rates_of_cuts(run) cut(kinds, c) cuts_run_round(run)
        cut_flow(run, crowd, u, v, a) cut_chance(crowd, c)
    """,
    "lines": """
        Lines(crowd, rows) sizes(crowd) read() row_word(r)
        lines_many(crowd) all_lines(crowd) lines_for(crowd, word) one_way(crowd)
    """,
    "bells": """
        BellMap(crowd) __call__(lines, place) back(lines, place)
        belled(word, place) bell_ring(lines, place) bells_row(lines, places)
    """,
    "counting": """
        line_counts(crowd) line_shares(crowd) count_of(crowd, word) row_out(lines, r) cut_counts(crowd, c)
    """,
    "verdicts": """
        Verdict(run, crowd, shares) word table() turned_run() check(word)
        Local(run, crowd, shares) word table() turned_run()
        Even(run, crowd, shares) word
        Stands(run, crowd, shares) word turned_run() form()
        verdict(run, crowd) quick_verdict(run, crowd) joined_verdicts(run, crowd) run_with_tie(run, u, v, table)
        run_without(run, u, v)
    """,
    "listing": "listing(run, *, width=8, signs='->') read_listing(lines, *, signs='->')",
    "rooms": """
        Room(run, crowd) deeds current() settle(counts) quicken(u, v, number) lay(u, v, table) cut_tie(u, v)
        join_kinds(parting) turn() undo() ask(question, *things) tried(deeds) trial()
    """,
}


def entries_of(text):
    """The names of a listing with their arguments, None for a property."""
    rest = " ".join(text.split()) + " "
    while rest.strip():
        name = rest.split("(")[0].split(" ")[0]
        if rest[len(name)] == "(":
            end = rest.index(")")
            yield name, rest[len(name) + 1:end]
        else:
            end = len(name) - 1
            yield name, None
        rest = rest[end + 1:].lstrip()


def arguments_of(thing, skip):
    """The arguments as they are written, without that of the object itself."""
    parameters = list(inspect.signature(thing).parameters.values())[skip:]
    plain = [one.replace(annotation=inspect.Parameter.empty) for one in parameters]
    return str(inspect.Signature(plain))[1:-1]


class TestExamples(unittest.TestCase):

    def test_all_of_them(self):
        # What an example shows is kept by Python as the builtin name _.
        self.addCleanup(vars(builtins).pop, "_", None)
        parser, runner = doctest.DocTestParser(), doctest.DocTestRunner(verbose=False)
        many = 0
        blocks = EXAMPLES.read_text().split("\n\n")
        for number, block in enumerate(blocks):
            examples = parser.get_doctest(block + "\n", {}, f"example {number}", str(EXAMPLES), 0)
            said = []
            result = runner.run(examples, out=said.append)
            self.assertEqual(result.failed, 0, "".join(said))
            many += bool(examples.examples)
        self.assertEqual(many, 28)


class TestReadme(unittest.TestCase):

    def test_each_example_by_itself(self):
        blocks = [part.split("```")[0] for part in README.read_text().split("```python\n")[1:]]
        self.assertEqual(len(blocks), 5)
        for block in blocks:
            said = io.StringIO()
            with redirect_stdout(said):
                exec(compile(block, str(README), "exec"), {})
            lines = [line for line in block.split("\n") if line.startswith("print(")]
            printed = said.getvalue().splitlines()
            self.assertEqual(len(printed), len(lines))
            for line, found in zip(lines, printed):
                comment = line.split(" # ")[-1]
                # A comment begins with what is printed, or says what it is where that has no words.
                self.assertTrue(comment.startswith(found) or " object at " in found, line)


class TestInterface(unittest.TestCase):

    def test_names_and_arguments(self):
        for module, text in INTERFACE.items():
            tree = ast.parse((FOLDER / f"{module}.py").read_text())
            functions = {node.name for node in tree.body if isinstance(node, ast.FunctionDef)}
            classes = {node.name: node for node in tree.body if isinstance(node, ast.ClassDef)}
            found = importlib.import_module(f"steprows.{module}")
            inside, own = None, {}
            for name, arguments in entries_of(text):
                if name in classes:
                    inside = getattr(found, name)
                    own = {node.name: node for node in classes[name].body if isinstance(node, ast.FunctionDef)}
                    self.assertEqual(arguments_of(inside, 0), arguments, (module, name))
                elif name in own:
                    self.check_member(inside, own[name], name, arguments)
                else:
                    self.assertIn(name, functions, module)
                    self.assertEqual(arguments_of(getattr(found, name), 0), arguments, (module, name))

    def check_member(self, inside, node, name, arguments):
        marks = [mark.id for mark in node.decorator_list]
        if arguments is None:
            self.assertEqual(marks, ["property"], name)
            return
        self.assertNotIn("property", marks)
        skip = 0 if marks else 1
        self.assertEqual(arguments_of(getattr(inside, name), skip), arguments, (inside, name))

    def test_nothing_is_left_out(self):
        files = {path.stem for path in FOLDER.glob("*.py")} - {"__init__", "checks", "errors"}
        self.assertEqual(set(INTERFACE), files)

    def test_what_a_web_and_a_crowd_hold_at_most(self):
        self.assertEqual(Web.MOST, 8)
        self.assertEqual((Crowd.MOST_KINDS, Crowd.MOST_WORDS, Crowd.MOST_SOLVED), (6, 400, 36))

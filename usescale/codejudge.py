"""Judging codes: whether they follow the rules, and where the first rule is broken."""

from usescale.codes import blocks_in, grades_and_kinds_in, has_last_slot
from usescale.errors import BadCode
from usescale.forms import INT, grades_in
from usescale.kinds import fits

HEAD = -1


class Judge:
    """A block that is looked at, with the row that the judge has come to.

    For each entry so far it holds the kind, the place of the grade that may be used and of the one that is used.
    """

    def __init__(self, scale, code, block):
        self.scale = scale
        self.code = list(code)
        self.block = block
        self.row = HEAD
        self.kinds = []
        self.allowed = []
        self.used = []
        self.stack = []

    def need(self, held):
        """Makes sure that a rule is held."""
        if not held:
            raise BadCode(self.block, self.row)

    def need_known(self, grades_and_kinds):
        """Makes sure that all grades that are written are grades of the scale."""
        for part in grades_and_kinds:
            for name in grades_in(part):
                self.need(self.scale.find_at(name) is not None)

    def take_value(self, word):
        """Takes a value of a form off the stack; gives its kind."""
        self.need(len(self.stack) > 0 and self.stack[-1][0] == word)
        return self.stack.pop()

    def add_entry(self, kind, allowed):
        """Adds an entry behind the others."""
        self.kinds.append(kind)
        self.allowed.append(allowed)
        self.used.append(self.scale.zero_at)

    def use(self, usage):
        """Adds a usage, which gives places by entries, to what is used."""
        for entry in usage:
            self.used[entry] = self.scale.sum_at(self.used[entry], usage[entry])

    def result_of(self, block):
        """The kind of the value that a block leaves."""
        return self.code[block][1]

    def usage_through(self, block, take):
        """The usage of a block through the entries that it takes. A last slot that is not taken is left out."""
        found = {}
        for entry, (_, grade) in zip(take, self.code[block][0]):
            before = found.get(entry, self.scale.zero_at)
            found[entry] = self.scale.sum_at(before, self.scale.at_name(grade))
        return found


def judge_code(scale, code):
    """Raises BadCode at the first rule that a code breaks."""
    if not code:
        raise BadCode(0, HEAD)
    for block in range(len(code)):
        judge_head(Judge(scale, code, block))
    for block in range(len(code)):
        judge_rows(Judge(scale, code, block))


def judge_head(judge):
    """Looks at the slots and the result of a block."""
    slots, result, _ = judge.code[judge.block]
    for kind, grade in slots:
        judge.need_known([kind, grade])
        judge.need(judge.block != 0 or kind == INT)
    judge.need_known([result])
    judge.need(judge.block != 0 or result == INT)


def judge_rows(judge):
    """Looks at the rows of a block, and at what is asked after the last one."""
    slots, result, rows = judge.code[judge.block]
    for kind, grade in slots:
        judge.add_entry(kind, judge.scale.at_name(grade))
    for number, row in enumerate(rows):
        judge.row = number
        judge.need_known(grades_and_kinds_in(row))
        judge_blocks(judge, row)
        look_at_row = JUDGES[row[0]]
        look_at_row(judge, row)
    judge.row = len(rows)
    judge.need(judge.stack == [result])
    for entry in range(len(judge.kinds)):
        judge.need(judge.scale.within_at(judge.used[entry], judge.allowed[entry]))


def judge_blocks(judge, row):
    """Looks at the blocks of an instruction and at what they take."""
    for number, (block, take) in enumerate(blocks_in(row)):
        judge.need(judge.block < block < len(judge.code))
        kinds = [kind for kind, _ in judge.code[block][0]]
        if has_last_slot(row, number):
            judge.need(len(kinds) > 0)
            kinds.pop()
        judge.need(len(take) == len(kinds))
        for entry, kind in zip(take, kinds):
            judge.need(0 <= entry < len(judge.kinds) and judge.kinds[entry] == kind)


def judge_last_slot(judge, block, kind, most_at):
    """Looks at the last slot of a block, which has a kind and a grade that lies within another."""
    found, grade = judge.code[block][0][-1]
    judge.need(found == kind and judge.scale.within_at(judge.scale.at_name(grade), most_at))


def judge_push(judge, row):
    judge.stack.append(INT)


def judge_look(judge, row):
    entry = row[1]
    judge.need(0 <= entry < len(judge.kinds))
    judge.use({entry: judge.scale.one_at})
    judge.stack.append(judge.kinds[entry])


def judge_operation(judge, row):
    judge.take_value("int")
    judge.take_value("int")
    judge.stack.append(INT)


def judge_fn(judge, row):
    _, grade, kind, block, take = row
    judge_last_slot(judge, block, kind, judge.scale.at_name(grade))
    judge.use(judge.usage_through(block, take))
    judge.stack.append(("fun", grade, kind, judge.result_of(block)))


def judge_call(judge, row):
    _, block, take = row
    _, grade, source, target = judge.take_value("fun")
    judge.need(judge.result_of(block) == source)
    judge.use(multiplied(judge.scale, grade, judge.usage_through(block, take)))
    judge.stack.append(target)


def judge_pair(judge, row):
    _, block, take, other, other_take = row
    judge.use(judge.usage_through(block, take))
    judge.use(judge.usage_through(other, other_take))
    judge.stack.append(("pair", judge.result_of(block), judge.result_of(other)))


def judge_split(judge, row):
    _, first, second = judge.take_value("pair")
    judge.add_entry(first, judge.scale.one_at)
    judge.add_entry(second, judge.scale.one_at)


def judge_side(judge, row):
    word, kind, block, take = row
    judge.use(judge.usage_through(block, take))
    found = judge.result_of(block)
    judge.stack.append(("either", found, kind) if word == "left" else ("either", kind, found))


def judge_case(judge, row):
    _, block, _, other, _ = row
    _, first, second = judge.take_value("either")
    judge_last_slot(judge, block, first, judge.scale.one_at)
    judge_last_slot(judge, other, second, judge.scale.one_at)
    judge_branches(judge, row)


def judge_test(judge, row):
    judge.take_value("int")
    judge_branches(judge, row)


def judge_branches(judge, row):
    """Looks at two blocks of which one is run."""
    _, block, take, other, other_take = row
    judge.need(judge.result_of(block) == judge.result_of(other))
    first = judge.usage_through(block, take)
    second = judge.usage_through(other, other_take)
    zero_at = judge.scale.zero_at
    bounds = {}
    for entry in [*first, *second]:
        bounds[entry] = judge.scale.bound_at(first.get(entry, zero_at), second.get(entry, zero_at))
        judge.need(bounds[entry] is not None)
    judge.use(bounds)
    judge.stack.append(judge.result_of(block))


def judge_box(judge, row):
    _, grade, block, take = row
    judge.use(multiplied(judge.scale, grade, judge.usage_through(block, take)))
    judge.stack.append(("box", grade, judge.result_of(block)))


def judge_open(judge, row):
    _, grade, content = judge.take_value("box")
    judge.add_entry(content, judge.scale.at_name(grade))


def judge_repeat(judge, row):
    _, grade, block, take, other, other_take = row
    judge.take_value("int")
    result = judge.result_of(block)
    judge.need(judge.result_of(other) == result)
    factor = judge.scale.at_name(grade)
    judge_last_slot(judge, other, result, factor)
    start = judge.usage_through(block, take)
    extra = judge.usage_through(other, other_take)
    zero_at = judge.scale.zero_at
    turns = {}
    for entry in [*start, *extra]:
        turns[entry] = judge.scale.turns_at(start.get(entry, zero_at), extra.get(entry, zero_at), factor)
        judge.need(turns[entry] is not None)
    judge.use(turns)
    judge.stack.append(result)


def judge_as(judge, row):
    judge.need(len(judge.stack) > 0 and fits(judge.scale, judge.stack[-1], row[1]))
    judge.stack[-1] = row[1]


def multiplied(scale, grade, usage):
    """A usage with every grade multiplied by the grade with the name on the left."""
    factor = scale.at_name(grade)
    return {entry: scale.product_at(factor, usage[entry]) for entry in usage}


JUDGES = {
    "push": judge_push,
    "look": judge_look,
    "add": judge_operation,
    "sub": judge_operation,
    "mul": judge_operation,
    "fn": judge_fn,
    "call": judge_call,
    "pair": judge_pair,
    "split": judge_split,
    "left": judge_side,
    "right": judge_side,
    "case": judge_case,
    "box": judge_box,
    "open": judge_open,
    "test": judge_test,
    "repeat": judge_repeat,
    "as": judge_as,
}

"""Two programs beside each other in one run."""

from patterndeeds.names import check_program, surveyed
from patterndeeds.renaming import program_with_names
from patterndeeds.signs import is_special
from patterndeeds.standing import all_expressions, all_names, all_statements, places_in

LOUD = {"getline": True, "next": True, "exit": True}
LOUD_WORDS = {"match": True, "close": True}
SETTING = {"set": 1, "change": 2, "step": 1}


def is_quiet(program):
    """Whether nothing in a program touches what another one beside it would see."""
    check_program(program)
    surveyed(program)
    for tree in all_statements(program) + all_expressions(program):
        if is_loud(tree):
            return False
    return True


def is_loud(tree):
    """Whether a tree itself keeps a program from being quiet."""
    tag = tree[0]
    if tag in LOUD:
        return True
    if tag == "walk":
        return is_special(tree[1])
    if tag in SETTING:
        return is_common(tree[SETTING[tag]])
    if tag != "built":
        return False
    _, word, trees = tree
    if word in LOUD_WORDS:
        return True
    return (word == "sub" or word == "gsub") and (len(trees) == 2 or is_common(trees[2]))


def is_common(target):
    """Whether a target is a field or a special name."""
    return target[0] == "field" or target[0] == "name" and is_special(target[1])


def beside(program, other_program):
    """Both programs in one, the pairs that rename the other one, and where its places come from."""
    check_program(program)
    check_program(other_program)
    surveyed(program)
    surveyed(other_program)
    pairs = parting_pairs(all_names(program), all_names(other_program))
    rules, functions = program_with_names(other_program, dict(pairs))
    both = (program[0] + rules, program[1] + functions)
    return both, pairs, origins(program, other_program)


def parting_pairs(names, others):
    """The pairs of those of the other names that stand among the names, and fresh ones."""
    pairs = []
    many = 0
    for name in sorted(others):
        if name in names and not is_special(name):
            many += 1
            while "v" + str(many) in names or "v" + str(many) in others:
                many += 1
            pairs.append((name, "v" + str(many)))
    return pairs


def origins(program, other_program):
    """The list of where each place of both programs in one comes from."""
    rows = [(0, 0)]
    places = [0, 0]
    for part in (0, 1):
        for which, one in enumerate((program, other_program)):
            trees = one[0]
            if part == 1:
                trees = [statement for function in one[1] for statement in function[2]]
            for _ in range(places_in(trees)):
                places[which] += 1
                rows.append((which, places[which]))
    return rows

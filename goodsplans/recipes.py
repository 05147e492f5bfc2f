"""Recipes, and which formulas are ones."""

from goodsplans.formulas import PAR, TENSOR, dual, end_of_formula, read_formula
from goodsplans.texts import is_name


class Recipe:
    def __init__(self, takes, gives):
        self.takes = takes
        self.gives = gives


# None stands for a formula that is no tensor of names and no name.
def tensor_names(formula):
    names = [node for node in formula if node != TENSOR]
    if all([is_name(name) for name in names]):
        return names
    return None


# How many names a recipe may have is not asked here: too many are another refusal.
def read_recipe(text):
    formula = read_formula(text)
    if formula is None or formula[0] != PAR:
        return None
    middle = end_of_formula(formula, 1)
    takes = tensor_names(dual(formula[1:middle]))
    gives = tensor_names(formula[middle:])
    if takes is None or gives is None:
        return None
    return Recipe(takes, gives)


def recipe_form(recipe):
    return "*".join(recipe.takes) + " -o " + "*".join(recipe.gives)

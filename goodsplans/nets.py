"""The net of a plan: a structure without cuts that links where each unit comes from with where it goes."""

from goodsplans.formulas import TENSOR, dual, dual_node, formula_form, tensor_of


def conclusions_of(workshop):
    conclusions = [[dual_node(name)] for name in workshop.beginning]
    for use in workshop.uses:
        recipe = workshop.recipes[use.recipe_number]
        conclusions.append([TENSOR] + tensor_of(recipe.takes) + dual(tensor_of(recipe.gives)))
    left = list(workshop.stock().values())
    if len(left) > 0:
        conclusions.append(tensor_of(left))
    return conclusions


# For each leaf, from left to right, the unit that comes from it or goes to it.
def leaf_units(workshop):
    units = list(range(len(workshop.beginning)))
    for use, given in zip(workshop.uses, workshop.given_units()):
        units.extend(use.units + given)
    return units + list(workshop.stock())


def link_form(lesser, greater):
    return f"{lesser}-{greater}"


# Each unit has two leaves. It comes from the first one, and these rise from left to right.
def link_forms(units):
    comes = {}
    goes = {}
    for leaf, unit in enumerate(units):
        if unit in comes:
            goes[unit] = leaf
        else:
            comes[unit] = leaf
    return [link_form(leaf, goes[unit]) for unit, leaf in comes.items()]


def net_form(conclusions, units):
    forms = [formula_form(conclusion) for conclusion in conclusions]
    cuts = ""
    return " ; ".join([", ".join(forms), cuts, " ".join(link_forms(units))])

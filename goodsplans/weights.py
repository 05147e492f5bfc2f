"""Weights, a dict from names to whole numbers; what is not in it weighs 0."""


def weight_of(names, weights):
    return sum([weights.get(name, 0) for name in names])


def are_kept(weights, recipes):
    return all([weight_of(recipe.takes, weights) == weight_of(recipe.gives, weights) for recipe in recipes])
